/- A store into one field of a task of a row. No condition. -/
import Derived.Test.YtgncjcnobojgbaaB1
import Derived.Deep.RegionHeld3
import Derived.Deep.RegionWith

namespace Go.Proofs.Ytgncjcnobojgbaa
open Go.RowKit
set_option linter.unusedVariables false

theorem l1Copy_any (ks : List Int) (A : Option Addr) (c : Nat) (w : World) (hlen : ks.length ≤ 1048576) (h : Row w A (icells ks)) :
    Calls Try.prog 121 #[.slice A ks.length c] w fun r w' => ∃ (g c' : Nat), r = .returned (.slice (some ⟨g, 0, none⟩) ks.length c') ∧ OwnR w' w.heap.size w'.heap.size 2 1 (.slice (some ⟨g, 0, none⟩) ks.length c') ks.length (icells ks) ∧ Below w.heap.size w w' := by
  have H := hide h
  clear h
  obtain ⟨i0, hi, hz0, hz1, hz2⟩ := info_parts infoInt
  go_enter Try.func121, Try.ntmps121
  go_wp2_with (at_builtin; refine wpList_append_row rfl (.tmp 3) (.tmp 4) 31 rfl w.heap.size 2 i0 (.int .i64 0) 1 8 Try.underlying31 hi hz0 hz1 hz2 rfl (by decide) (.slice (some ⟨w.heap.size, 0, none⟩) 0 0) 0 [] rfl (World.ownsRow_lit (base := w.heap.size) w #[] 0 (Nat.le_refl _) (by simp [maxLen]) (by simp)) _ _ _ (icells ks) rfl (by simp [icells]) (H.out.below (Below.alloc (Below.refl _ _) (Nat.le_refl _) _)) (icells_one _) (by unfold maxLen; omega) (by omega) (by simp) ?_; intro v1 Z1 hown1 hgr1 hiff1; obtain ⟨g1, cap1, hv1, hg1, hg1l⟩ := Own.shape hown1 (fun e => absurd (hiff1.1 e).1 (by simp)); subst hv1)
  go_ret
  have ho : Z1.ownsRow w.heap.size 2 1 (.slice (some ⟨g1, 0, none⟩) ks.length cap1) ks.length (icells ks) := by simpa using hown1
  exact ⟨g1, cap1, by simp, OwnR.of ho (Nat.le_refl _), Below.grown (row := some w.heap.size) (by go_grown) hgr1 (by simp) (by intro r e; injection e; omega)⟩

theorem Blk.at_ {w : World} {t : TypeId} {cs : Array Value} {g : Nat} (h : g = w.heap.size) : Blk (w.alloc (.cells cs t)) g t cs := h ▸ Blk.new w t cs
theorem Blk.grownNe {w w' : World} {t : TypeId} {cs : Array Value} {g a0 : Nat} (h : Blk w g t cs) (hg : w.grownBy w' (some a0)) (hne : g ≠ a0) : Blk w' g t cs := h.grown hg (fun e => hne (by injection e))
theorem kpD {w W : World} {u0 u1 u2 u3 u4 : Value} (h : Below w.heap.size w W ∧ W.cell? ⟨w.heap.size, 0, none⟩ = some u0 ∧ W.cell? ⟨w.heap.size, 1, none⟩ = some u1 ∧ W.cell? ⟨w.heap.size, 2, none⟩ = some u2 ∧ W.cell? ⟨w.heap.size, 3, none⟩ = some u3 ∧ W.cell? ⟨w.heap.size, 4, none⟩ = some u4) : Below w.heap.size w W.drew ∧ W.drew.cell? ⟨w.heap.size, 0, none⟩ = some u0 ∧ W.drew.cell? ⟨w.heap.size, 1, none⟩ = some u1 ∧ W.drew.cell? ⟨w.heap.size, 2, none⟩ = some u2 ∧ W.drew.cell? ⟨w.heap.size, 3, none⟩ = some u3 ∧ W.drew.cell? ⟨w.heap.size, 4, none⟩ = some u4 := ⟨h.1.drew, h.2⟩
theorem kpA {w W : World} {u0 u1 u2 u3 u4 : Value} (hx : w.heap.size < W.heap.size) (h : Below w.heap.size w W ∧ W.cell? ⟨w.heap.size, 0, none⟩ = some u0 ∧ W.cell? ⟨w.heap.size, 1, none⟩ = some u1 ∧ W.cell? ⟨w.heap.size, 2, none⟩ = some u2 ∧ W.cell? ⟨w.heap.size, 3, none⟩ = some u3 ∧ W.cell? ⟨w.heap.size, 4, none⟩ = some u4) (o : Obj) : Below w.heap.size w (W.alloc o) ∧ (W.alloc o).cell? ⟨w.heap.size, 0, none⟩ = some u0 ∧ (W.alloc o).cell? ⟨w.heap.size, 1, none⟩ = some u1 ∧ (W.alloc o).cell? ⟨w.heap.size, 2, none⟩ = some u2 ∧ (W.alloc o).cell? ⟨w.heap.size, 3, none⟩ = some u3 ∧ (W.alloc o).cell? ⟨w.heap.size, 4, none⟩ = some u4 := by
  have hz := h.1.size
  refine ⟨h.1.alloc hz o, ?_, ?_, ?_, ?_, ?_⟩
  all_goals rw [World.cell?_alloc_lt W o _ (show w.heap.size < W.heap.size from hx)]
  · exact h.2.1
  · exact h.2.2.1
  · exact h.2.2.2.1
  · exact h.2.2.2.2.1
  · exact h.2.2.2.2.2
theorem kpG {w W W' : World} {u0 u1 u2 u3 u4 : Value} {a0 : Nat} (h : Below w.heap.size w W ∧ W.cell? ⟨w.heap.size, 0, none⟩ = some u0 ∧ W.cell? ⟨w.heap.size, 1, none⟩ = some u1 ∧ W.cell? ⟨w.heap.size, 2, none⟩ = some u2 ∧ W.cell? ⟨w.heap.size, 3, none⟩ = some u3 ∧ W.cell? ⟨w.heap.size, 4, none⟩ = some u4) (hg : W.grownBy W' (some a0)) (ha : w.heap.size + 2 ≤ a0) : Below w.heap.size w W' ∧ W'.cell? ⟨w.heap.size, 0, none⟩ = some u0 ∧ W'.cell? ⟨w.heap.size, 1, none⟩ = some u1 ∧ W'.cell? ⟨w.heap.size, 2, none⟩ = some u2 ∧ W'.cell? ⟨w.heap.size, 3, none⟩ = some u3 ∧ W'.cell? ⟨w.heap.size, 4, none⟩ = some u4 := by
  have hne : ∀ o, some (⟨w.heap.size, o, none⟩ : Addr).block ≠ some a0 := fun o e => by injection e with e; simp at e; omega
  exact ⟨Below.grown h.1 hg h.1.size (by intro g e; injection e with e; omega), hg.cell h.2.1 (hne 0), hg.cell h.2.2.1 (hne 1), hg.cell h.2.2.2.1 (hne 2), hg.cell h.2.2.2.2.1 (hne 3), hg.cell h.2.2.2.2.2 (hne 4)⟩
theorem kpB {w W W' : World} {u0 u1 u2 u3 u4 : Value} (hx : w.heap.size < W.heap.size) (h : Below w.heap.size w W ∧ W.cell? ⟨w.heap.size, 0, none⟩ = some u0 ∧ W.cell? ⟨w.heap.size, 1, none⟩ = some u1 ∧ W.cell? ⟨w.heap.size, 2, none⟩ = some u2 ∧ W.cell? ⟨w.heap.size, 3, none⟩ = some u3 ∧ W.cell? ⟨w.heap.size, 4, none⟩ = some u4) (hb : Below W.heap.size W W') : Below w.heap.size w W' ∧ W'.cell? ⟨w.heap.size, 0, none⟩ = some u0 ∧ W'.cell? ⟨w.heap.size, 1, none⟩ = some u1 ∧ W'.cell? ⟨w.heap.size, 2, none⟩ = some u2 ∧ W'.cell? ⟨w.heap.size, 3, none⟩ = some u3 ∧ W'.cell? ⟨w.heap.size, 4, none⟩ = some u4 :=
  ⟨h.1.trans (hb.mono h.1.size), (hb.cell (p := ⟨w.heap.size, 0, none⟩) hx).trans h.2.1, (hb.cell (p := ⟨w.heap.size, 1, none⟩) hx).trans h.2.2.1, (hb.cell (p := ⟨w.heap.size, 2, none⟩) hx).trans h.2.2.2.1, (hb.cell (p := ⟨w.heap.size, 3, none⟩) hx).trans h.2.2.2.2.1, (hb.cell (p := ⟨w.heap.size, 4, none⟩) hx).trans h.2.2.2.2.2⟩
theorem kpS {w W : World} {u0 u1 u2 u3 u4 : Value} {p : Addr} (h : Below w.heap.size w W ∧ W.cell? ⟨w.heap.size, 0, none⟩ = some u0 ∧ W.cell? ⟨w.heap.size, 1, none⟩ = some u1 ∧ W.cell? ⟨w.heap.size, 2, none⟩ = some u2 ∧ W.cell? ⟨w.heap.size, 3, none⟩ = some u3 ∧ W.cell? ⟨w.heap.size, 4, none⟩ = some u4) (hp : p.block = w.heap.size + 1) (v : Value) : Below w.heap.size w (W.setCell p v) ∧ (W.setCell p v).cell? ⟨w.heap.size, 0, none⟩ = some u0 ∧ (W.setCell p v).cell? ⟨w.heap.size, 1, none⟩ = some u1 ∧ (W.setCell p v).cell? ⟨w.heap.size, 2, none⟩ = some u2 ∧ (W.setCell p v).cell? ⟨w.heap.size, 3, none⟩ = some u3 ∧ (W.setCell p v).cell? ⟨w.heap.size, 4, none⟩ = some u4 := by
  refine ⟨h.1.setCell (by omega) v, ?_, ?_, ?_, ?_, ?_⟩
  all_goals rw [World.cell?_setCell_other W p _ v (fun e => by subst e; simp at hp)]
  · exact h.2.1
  · exact h.2.2.1
  · exact h.2.2.2.1
  · exact h.2.2.2.2.1
  · exact h.2.2.2.2.2
theorem kpL {w W : World} {u0 u1 u2 u3 u4 : Value} (h : Below w.heap.size w W ∧ W.cell? ⟨w.heap.size, 0, none⟩ = some u0 ∧ W.cell? ⟨w.heap.size, 1, none⟩ = some u1 ∧ W.cell? ⟨w.heap.size, 2, none⟩ = some u2 ∧ W.cell? ⟨w.heap.size, 3, none⟩ = some u3 ∧ W.cell? ⟨w.heap.size, 4, none⟩ = some u4) : Below w.heap.size w W := h.1
theorem kpX {w W : World} {u0 u1 u2 u3 u4 : Value} (h : Below w.heap.size w W ∧ W.cell? ⟨w.heap.size, 0, none⟩ = some u0 ∧ W.cell? ⟨w.heap.size, 1, none⟩ = some u1 ∧ W.cell? ⟨w.heap.size, 2, none⟩ = some u2 ∧ W.cell? ⟨w.heap.size, 3, none⟩ = some u3 ∧ W.cell? ⟨w.heap.size, 4, none⟩ = some u4) : w.heap.size < W.heap.size := World.block_lt_of_cell? W _ h.2.1

set_option maxRecDepth 100000 in
set_option maxHeartbeats 16000000 in
theorem l3Copy_any (ts : List T7) (ks : List Int) (fs : List F2) (A0 A1 A2 : Option Addr) (c0 c1 c2 : Nat) (tn : Int) (st : Bool) (w : World) (l0 : ts.length ≤ 1048576) (l1 : ks.length ≤ 1048576) (l2 : fs.length ≤ 1048576) (h : InPool w ts ks fs A0 A1 A2) :
    Calls Try.prog 74 #[.agg #[.slice A0 ts.length c0, .slice A1 ks.length c1, .slice A2 fs.length c2, .int .i64 tn, .bool st]] w (MadePool w ts ks fs tn st) := by
  have H := hide h
  clear h
  obtain ⟨i1, gi, gz0, gz1, gz2⟩ := info_parts infoFut
  obtain ⟨i2, ji, jz0, jz1, jz2⟩ := info_parts infoTask
  go_enter Try.func74, Try.ntmps74
  go_wp2_with fail
  have G := Below.refl w.heap.size w
  have kX := Blk.new w 34 #[.slice A0 ts.length c0, .slice A1 ks.length c1, .slice A2 fs.length c2, .int .i64 tn, .bool st]
  have hbs := G.size
  replace G := G.alloc (by omega) (.cells #[.slice A0 ts.length c0, .slice A1 ks.length c1, .slice A2 fs.length c2, .int .i64 tn, .bool st] 34)
  have z1 : (w.alloc (.cells #[.slice A0 ts.length c0, .slice A1 ks.length c1, .slice A2 fs.length c2, .int .i64 tn, .bool st] 34)).heap.size = w.heap.size + 1 := by simp
  clear hbs
  generalize w.alloc (.cells #[.slice A0 ts.length c0, .slice A1 ks.length c1, .slice A2 fs.length c2, .int .i64 tn, .bool st] 34) = W1 at kX G z1 ⊢
  have kR : Blk (W1.alloc (.cells #[.slice none 0 0, .slice none 0 0, .slice none 0 0, .int .i64 0, .bool false] 34)) (w.heap.size + 1) 34 #[.slice none 0 0, .slice none 0 0, .slice none 0 0, .int .i64 0, .bool false] := by
    have h := Blk.new W1 34 #[.slice none 0 0, .slice none 0 0, .slice none 0 0, .int .i64 0, .bool false]
    rw [show W1.heap.size = w.heap.size + 1 by omega] at h
    exact h
  replace kX := kX.alloc (.cells #[.slice none 0 0, .slice none 0 0, .slice none 0 0, .int .i64 0, .bool false] 34)
  have hbs := G.size
  replace G := G.alloc (by omega) (.cells #[.slice none 0 0, .slice none 0 0, .slice none 0 0, .int .i64 0, .bool false] 34)
  have z2 : (W1.alloc (.cells #[.slice none 0 0, .slice none 0 0, .slice none 0 0, .int .i64 0, .bool false] 34)).heap.size = W1.heap.size + 1 := by simp
  clear hbs
  generalize W1.alloc (.cells #[.slice none 0 0, .slice none 0 0, .slice none 0 0, .int .i64 0, .bool false] 34) = W2 at kX kR G z2 ⊢
  obtain ⟨tX, qX0, fX0, qX1, fX1, qX2, fX2, qX3, fX3, qX4, fX4⟩ := kX.f5
  obtain ⟨tR, qR0, fR0, qR1, fR1, qR2, fR2, qR3, fR3, qR4, fR4⟩ := kR.f5
  have hS : Below w.heap.size w W2 ∧ W2.cell? ⟨w.heap.size, 0, none⟩ = some (.slice A0 ts.length c0) ∧ W2.cell? ⟨w.heap.size, 1, none⟩ = some (.slice A1 ks.length c1) ∧ W2.cell? ⟨w.heap.size, 2, none⟩ = some (.slice A2 fs.length c2) ∧ W2.cell? ⟨w.heap.size, 3, none⟩ = some (.int .i64 tn) ∧ W2.cell? ⟨w.heap.size, 4, none⟩ = some (.bool st) := ⟨G, qX0, qX1, qX2, qX3, qX4⟩
  have hsz2 : w.heap.size + 2 ≤ W2.heap.size := by omega
  clear z1 z2 G kX
  have tR1 : w.heap.size + 1 < W2.heap.size + 1 := by omega
  have tR2 : w.heap.size + 1 < W2.heap.size + 1 + 1 := by omega
  go_region_held3 (fun w' => Below w.heap.size w w' ∧ w'.cell? ⟨w.heap.size, 0, none⟩ = some (.slice A0 ts.length c0) ∧ w'.cell? ⟨w.heap.size, 1, none⟩ = some (.slice A1 ks.length c1) ∧ w'.cell? ⟨w.heap.size, 2, none⟩ = some (.slice A2 fs.length c2) ∧ w'.cell? ⟨w.heap.size, 3, none⟩ = some (.int .i64 tn) ∧ w'.cell? ⟨w.heap.size, 4, none⟩ = some (.bool st)) (with_reducible (first | exact kpD hS | exact kpA (kpX (by assumption)) (by assumption) _ | exact kpD (kpA (kpX hS) hS _) | exact kpD (kpA (kpX (kpA (kpX hS) hS _)) (kpA (kpX hS) hS _) _) | exact kpA (kpX (kpA (kpX (by assumption)) (by assumption) _)) (kpA (kpX (by assumption)) (by assumption) _) _ | exact kpG (by assumption) (by assumption) (by first | omega | (simp; done) | (simp; omega)) | exact kpB (kpX (by assumption)) (by assumption) (by assumption) | exact kpS (kpS (kpS (kpS (kpS (by assumption) rfl _) rfl _) rfl _) rfl _) rfl _)) (first | (refine step_append_lit rfl (.tmp 3) (.tmp 5) 30 rfl (w.heap.size + 2) 46 i2 (.agg #[.int .i64 0, .int .i64 0, .int .i64 0, .int .i64 0, .int .i64 0, .int .i64 0, .int .i64 0]) 7 56 Try.underlying30 ji jz0 jz1 jz2 rfl (by decide) _ rfl (by (repeat (first | (with_reducible exact kR) | (exact Blk.at_ (by simp)) | (with_reducible refine Blk.drew ?_) | (with_reducible refine Blk.alloc ?_ _) | (refine Blk.below ?_ hb9 (by first | omega | (simp; done) | (simp; omega))) | (refine Blk.grownNe ?_ hg6 (by first | omega | (simp; done) | (simp; omega))) | (refine Blk.grownNe ?_ hg13 (by first | omega | (simp; done) | (simp; omega)))))) (by first | omega | (simp; done) | (simp; omega)) _ _ _ (tcells ts) rfl (tcells_length ts) (Row.below H.out.1 (kpL (by assumption))) (tcells_one ts) (by unfold maxLen; omega) (by omega) ?_; intro g6 e6 w6 lit6 own6 hg6; have s6 := hg6.size; (try simp at s6); have hz6 : w.heap.size + 2 ≤ w6.heap.size := (by omega); have kRw : Blk w6 (w.heap.size + 1) 34 #[.slice none 0 0, .slice none 0 0, .slice none 0 0, .int .i64 0, .bool false] := (by (repeat (first | (with_reducible exact kR) | (exact Blk.at_ (by simp)) | (with_reducible refine Blk.drew ?_) | (with_reducible refine Blk.alloc ?_ _) | (refine Blk.below ?_ hb9 (by first | omega | (simp; done) | (simp; omega))) | (refine Blk.grownNe ?_ hg6 (by first | omega | (simp; done) | (simp; omega))) | (refine Blk.grownNe ?_ hg13 (by first | omega | (simp; done) | (simp; omega)))))); have tR0 : w.heap.size + 1 < w6.heap.size := kRw.lt; have tR1 : w.heap.size + 1 < w6.heap.size + 1 := (by omega); have tR2 : w.heap.size + 1 < w6.heap.size + 1 + 1 := (by omega); have rq0 : w6.cell? ⟨w.heap.size + 1, 0, none⟩ = some (.slice none 0 0) := kRw.cell 0; have rf0 : w6.frozen? ⟨w.heap.size + 1, 0, none⟩ = false := kRw.frozen 0; have rq1 : w6.cell? ⟨w.heap.size + 1, 1, none⟩ = some (.slice none 0 0) := kRw.cell 1; have rf1 : w6.frozen? ⟨w.heap.size + 1, 1, none⟩ = false := kRw.frozen 1; have rq2 : w6.cell? ⟨w.heap.size + 1, 2, none⟩ = some (.slice none 0 0) := kRw.cell 2; have rf2 : w6.frozen? ⟨w.heap.size + 1, 2, none⟩ = false := kRw.frozen 2; have rq3 : w6.cell? ⟨w.heap.size + 1, 3, none⟩ = some (.int .i64 0) := kRw.cell 3; have rf3 : w6.frozen? ⟨w.heap.size + 1, 3, none⟩ = false := kRw.frozen 3; have rq4 : w6.cell? ⟨w.heap.size + 1, 4, none⟩ = some (.bool false) := kRw.cell 4; have rf4 : w6.frozen? ⟨w.heap.size + 1, 4, none⟩ = false := kRw.frozen 4) | (refine step_append_lit rfl (.tmp 10) (.tmp 12) 32 rfl (w.heap.size + 2) 90 i1 (.agg #[.bool false, .int .i64 0]) 2 16 Try.underlying32 gi gz0 gz1 gz2 rfl (by decide) _ rfl (by (repeat (first | (with_reducible exact kR) | (exact Blk.at_ (by simp)) | (with_reducible refine Blk.drew ?_) | (with_reducible refine Blk.alloc ?_ _) | (refine Blk.below ?_ hb9 (by first | omega | (simp; done) | (simp; omega))) | (refine Blk.grownNe ?_ hg6 (by first | omega | (simp; done) | (simp; omega))) | (refine Blk.grownNe ?_ hg13 (by first | omega | (simp; done) | (simp; omega)))))) (by first | omega | (simp; done) | (simp; omega)) _ _ _ (fcells fs) rfl (fcells_length fs) (Row.below H.out.2.2 (kpL (by assumption))) (fcells_one fs) (by unfold maxLen; omega) (by omega) ?_; intro g13 e13 w13 lit13 own13 hg13; have s13 := hg13.size; (try simp at s13); have hz13 : w.heap.size + 2 ≤ w13.heap.size := (by omega); have kRw : Blk w13 (w.heap.size + 1) 34 #[.slice none 0 0, .slice none 0 0, .slice none 0 0, .int .i64 0, .bool false] := (by (repeat (first | (with_reducible exact kR) | (exact Blk.at_ (by simp)) | (with_reducible refine Blk.drew ?_) | (with_reducible refine Blk.alloc ?_ _) | (refine Blk.below ?_ hb9 (by first | omega | (simp; done) | (simp; omega))) | (refine Blk.grownNe ?_ hg6 (by first | omega | (simp; done) | (simp; omega))) | (refine Blk.grownNe ?_ hg13 (by first | omega | (simp; done) | (simp; omega)))))); have tR0 : w.heap.size + 1 < w13.heap.size := kRw.lt; have tR1 : w.heap.size + 1 < w13.heap.size + 1 := (by omega); have tR2 : w.heap.size + 1 < w13.heap.size + 1 + 1 := (by omega); have rq0 : w13.cell? ⟨w.heap.size + 1, 0, none⟩ = some (.slice none 0 0) := kRw.cell 0; have rf0 : w13.frozen? ⟨w.heap.size + 1, 0, none⟩ = false := kRw.frozen 0; have rq1 : w13.cell? ⟨w.heap.size + 1, 1, none⟩ = some (.slice none 0 0) := kRw.cell 1; have rf1 : w13.frozen? ⟨w.heap.size + 1, 1, none⟩ = false := kRw.frozen 1; have rq2 : w13.cell? ⟨w.heap.size + 1, 2, none⟩ = some (.slice none 0 0) := kRw.cell 2; have rf2 : w13.frozen? ⟨w.heap.size + 1, 2, none⟩ = false := kRw.frozen 2; have rq3 : w13.cell? ⟨w.heap.size + 1, 3, none⟩ = some (.int .i64 0) := kRw.cell 3; have rf3 : w13.frozen? ⟨w.heap.size + 1, 3, none⟩ = false := kRw.frozen 3; have rq4 : w13.cell? ⟨w.heap.size + 1, 4, none⟩ = some (.bool false) := kRw.cell 4; have rf4 : w13.frozen? ⟨w.heap.size + 1, 4, none⟩ = false := kRw.frozen 4) | (go_at_call 121; refine (l1Copy_any ks A1 c1 _ (by omega) (Row.below H.out.2.1 (kpL (by assumption)))).mono ?_; rintro r w9 ⟨g9, e9, rfl, own9, hb9⟩; have own9 := own9.wide (l2 := w.heap.size + 2) (h2 := w9.heap.size) (by first | omega | (simp; done) | (simp; omega)) (Nat.le_refl _); have s9 := hb9.size; (try simp at s9); have hz9 : w.heap.size + 2 ≤ w9.heap.size := (by omega); have kRw : Blk w9 (w.heap.size + 1) 34 #[.slice none 0 0, .slice none 0 0, .slice none 0 0, .int .i64 0, .bool false] := (by (repeat (first | (with_reducible exact kR) | (exact Blk.at_ (by simp)) | (with_reducible refine Blk.drew ?_) | (with_reducible refine Blk.alloc ?_ _) | (refine Blk.below ?_ hb9 (by first | omega | (simp; done) | (simp; omega))) | (refine Blk.grownNe ?_ hg6 (by first | omega | (simp; done) | (simp; omega))) | (refine Blk.grownNe ?_ hg13 (by first | omega | (simp; done) | (simp; omega)))))); have tR0 : w.heap.size + 1 < w9.heap.size := kRw.lt; have tR1 : w.heap.size + 1 < w9.heap.size + 1 := (by omega); have tR2 : w.heap.size + 1 < w9.heap.size + 1 + 1 := (by omega); have rq0 : w9.cell? ⟨w.heap.size + 1, 0, none⟩ = some (.slice none 0 0) := kRw.cell 0; have rf0 : w9.frozen? ⟨w.heap.size + 1, 0, none⟩ = false := kRw.frozen 0; have rq1 : w9.cell? ⟨w.heap.size + 1, 1, none⟩ = some (.slice none 0 0) := kRw.cell 1; have rf1 : w9.frozen? ⟨w.heap.size + 1, 1, none⟩ = false := kRw.frozen 1; have rq2 : w9.cell? ⟨w.heap.size + 1, 2, none⟩ = some (.slice none 0 0) := kRw.cell 2; have rf2 : w9.frozen? ⟨w.heap.size + 1, 2, none⟩ = false := kRw.frozen 2; have rq3 : w9.cell? ⟨w.heap.size + 1, 3, none⟩ = some (.int .i64 0) := kRw.cell 3; have rf3 : w9.frozen? ⟨w.heap.size + 1, 3, none⟩ = false := kRw.frozen 3; have rq4 : w9.cell? ⟨w.heap.size + 1, 4, none⟩ = some (.bool false) := kRw.cell 4; have rf4 : w9.frozen? ⟨w.heap.size + 1, 4, none⟩ = false := kRw.frozen 4))
  all_goals go_wp2_with fail
  all_goals exact bodyPost_ret (v := (.agg #[.slice (some ⟨g6, 0, none⟩) ts.length e6, .slice (some ⟨g9, 0, none⟩) ks.length e9, .slice (some ⟨g13, 0, none⟩) fs.length e13, .int .i64 tn, .bool st])) (by simp [results, Try.results74, go_sem, rq0, rq1, rq2, rq3, rq4]) rfl ⟨_, _, _, _, _, _, rfl, ⟨(OwnR.wide (lo := w.heap.size + 2) (hi := w6.heap.size) (by (repeat (with_reducible first | exact own6 | refine OwnR.store ?_ (.inl (by simp)) _ | refine OwnR.drew ?_ | refine OwnR.alloc ?_ _ | refine OwnR.below ?_ hb9 | refine OwnR.grownT ?_ lit6 (by decide) hg6 | refine OwnR.grownT ?_ lit13 (by decide) hg13))) (by omega) (by first | omega | (simp [World.setCell]; done) | (simp [World.setCell]; omega))), (OwnR.wide (lo := w.heap.size + 2) (hi := w9.heap.size) (by (repeat (with_reducible first | exact own9 | refine OwnR.store ?_ (.inl (by simp)) _ | refine OwnR.drew ?_ | refine OwnR.alloc ?_ _ | refine OwnR.below ?_ hb9 | refine OwnR.grownT ?_ lit6 (by decide) hg6 | refine OwnR.grownT ?_ lit13 (by decide) hg13))) (by omega) (by first | omega | (simp [World.setCell]; done) | (simp [World.setCell]; omega))), (OwnR.wide (lo := w.heap.size + 2) (hi := w13.heap.size) (by (repeat (with_reducible first | exact own13 | refine OwnR.store ?_ (.inl (by simp)) _ | refine OwnR.drew ?_ | refine OwnR.alloc ?_ _ | refine OwnR.below ?_ hb9 | refine OwnR.grownT ?_ lit6 (by decide) hg6 | refine OwnR.grownT ?_ lit13 (by decide) hg13))) (by omega) (by first | omega | (simp [World.setCell]; done) | (simp [World.setCell]; omega)))⟩, kpL (by assumption)⟩
end Go.Proofs.Ytgncjcnobojgbaa

namespace Go.Proofs.Ytgncjcnobojgbaa
open Go.RowKit
set_option linter.unusedVariables false

def soloTo (ts : List T7) (k : Nat) (s o : Int) : Bool := !(s == 2) || (ts.take k).all (fun u => !(u.s == 2 && u.o == o))
def waitsOk (n k : Nat) (wt on : Int) : Bool := !(wt == 1) || (decide (on < n) && !(on == k))
def fitB (a b c d e : Int) (ts : List T7) (tn : Int) (k : Nat) (t : T7) : Bool :=
  taskB a b c d e t.s t.l t.o t.wt t.on t.v t.t && (decide (t.t < tn) && (soloTo ts k t.s t.o && waitsOk ts.length k t.wt t.on))
def allFrom (P : Nat → T7 → Bool) : Nat → List T7 → Bool
  | _, [] => true
  | i, t :: r => P i t && allFrom P (i + 1) r
def tasksB (a b c d e : Int) (ts : List T7) (tn : Int) : Bool := allFrom (fitB a b c d e ts tn) 0 ts
def tokB (k : Int) : Bool := btw k 0 100
def futB (f : F2) : Bool := btw f.v 0 9999 && (f.b || f.v == 0)
def poolB (a b c d e : Int) (ts : List T7) (ks : List Int) (fs : List F2) (tn : Int) : Bool :=
  planB a b c d e && (btw tn 0 1000000 && ((decide ((ts.length : Int) ≤ b) && tasksB a b c d e ts tn) && ((ks.all tokB && decide ((ks.length : Int) = d)) && (fs.all futB && decide ((fs.length : Int) = e)))))

/-- Who runs alone: the first one that runs of its owner. -/
theorem runM_alone (ts : List T7) (w i : Int) (k : Nat) (t : T7) (ht : ts[k]? = some t) (hs : t.s = 2) (ho : t.o = w) : (runM ts w i = i + k) ↔ (ts.take k).all (fun u => !(u.s == 2 && u.o == w)) = true := by
  induction ts generalizing i k with
  | nil => simp at ht
  | cons u r ih =>
    cases k with
    | zero =>
      simp only [List.getElem?_cons_zero, Option.some.injEq] at ht
      subst ht
      simp [runM, hs, ho]
    | succ k =>
      simp only [List.getElem?_cons_succ] at ht
      have := ih (i + 1) k ht
      simp only [runM, List.take_succ_cons, List.all_cons]
      by_cases hu : u.s = 2 ∧ u.o = w
      · rw [if_pos hu]
        simp [hu.1, hu.2]
        omega
      · rw [if_neg hu, show i + ((k + 1 : Nat) : Int) = i + 1 + k from by omega, this]
        have : (u.s == 2 && u.o == w) = false := by simpa using hu
        simp [this]
theorem solo_eq (ts : List T7) (k : Nat) (s l o wt on v t : Int) (ht : ts[k]? = some ⟨s, l, o, wt, on, v, t⟩) (hs : s = 2) : (decide (runM ts o 0 = (k : Int))) = soloTo ts k s o := by
  have h := runM_alone ts o 0 k _ ht hs rfl
  rw [Int.zero_add] at h
  rw [Bool.eq_iff_iff]
  simp only [decide_eq_true_eq, soloTo, hs]
  rw [h]; simp

set_option maxHeartbeats 1000000 in
theorem size_any (ts : List T7) (A0 A1 A2 : Option Addr) (c0 n1 c1 n2 c2 : Nat) (tn : Int) (st : Bool) (g : Nat) (w : World) (hg : Blk w g 34 #[.slice A0 ts.length c0, .slice A1 n1 c1, .slice A2 n2 c2, .int .i64 tn, .bool st]) :
    Calls Try.prog 133 #[.pointer (some ⟨g, 0, none⟩)] w fun r w' => r = .returned (.int .i64 (ts.length : Nat)) ∧ w = w' := by
  have d0 : w.cell? ⟨g, 0, none⟩ = some (.slice A0 ts.length c0) := hg.cell 0
  go_enter Try.func133, Try.ntmps133
  go_wp2
  go_ret
  exact ⟨rfl, rfl⟩

set_option maxHeartbeats 1000000 in
theorem futRight_any (s : Bool) (v : Int) (w : World) :
    Calls Try.prog 152 #[.agg #[.bool s, .int .i64 v]] w fun r w' => r = .returned (.bool (futB ⟨s, v⟩)) ∧ Below w.heap.size w w' := by
  cases s
  · by_cases hv : v = 0
    · subst hv
      go_enter Try.func152, Try.ntmps152
      go_wp2
      go_ret
      exact ⟨rfl, by go_grown⟩
    · have e : futB ⟨false, v⟩ = false := by simp [futB, hv]
      rw [e]
      go_enter Try.func152, Try.ntmps152
      go_wp2
      go_ret
      exact ⟨ret_bool (by simp [hv]), by go_grown⟩
  · have e : futB ⟨true, v⟩ = btw v 0 9999 := by simp [futB]
    rw [e]
    go_enter Try.func152, Try.ntmps152
    go_wp2_with (go_at_call 104; refine (between_any _ _ _ _).mono ?_; rintro e w' ⟨rfl, rfl⟩)
    go_ret
    exact ⟨rfl, by go_grown⟩

set_option maxHeartbeats 2000000 in
theorem runsAlone_any (ts : List T7) (A0 A1 A2 : Option Addr) (c0 n1 c1 n2 c2 : Nat) (tn : Int) (st : Bool) (k : Nat) (s l o wt on v t : Int) (ht : ts[k]? = some ⟨s, l, o, wt, on, v, t⟩) (hk : k < ts.length) (g : Nat) (w : World) (hlen : ts.length ≤ 1048576) (hg : Blk w g 34 #[.slice A0 ts.length c0, .slice A1 n1 c1, .slice A2 n2 c2, .int .i64 tn, .bool st]) (h0 : Row w A0 (tcells ts)) :
    Calls Try.prog 164 #[.pointer (some ⟨g, 0, none⟩), .int .i64 k] w fun r w' => r = .returned (.bool (soloTo ts k s o)) ∧ Below w.heap.size w w' := by
  have d0 : w.cell? ⟨g, 0, none⟩ = some (.slice A0 ts.length c0) := hg.cell 0
  obtain ⟨b', off, s', l', o', wt', on', v', t', rfl, _, ht', hb, z0, z1, z2, z3, z4, z5, z6⟩ := h0.ts_at hk
  rw [ht] at ht'
  injection ht' with ht'
  injection ht' with u0 u1 u2 u3 u4 u5 u6
  subst u0 u1 u2 u3 u4 u5 u6
  have hgl := hg.lt
  have H := hide (⟨hg, h0, ht⟩ : _ ∧ _ ∧ _)
  clear hg h0 ht
  by_cases hs : s = 2
  · rw [← solo_eq ts k s l o wt on v t H.out.2.2 hs]
    subst hs
    go_enter Try.func164, Try.ntmps164
    go_wp2_with fail
    go_call (runBy_any ts (some ⟨b', off, none⟩) A1 A2 c0 n1 c1 n2 c2 tn st o g _ hlen (H.out.1.alloc _) (H.out.2.1.below (by go_grown))) as r w1 ⟨rfl, hb1⟩
    go_wp2_with fail
    go_ret
    exact ⟨ret_bool (by rw [Bool.eq_iff_iff]; simp), Below.trans (by go_grown) (hb1.mono (by go_size))⟩
  · have e : soloTo ts k s o = true := by simp [soloTo, hs]
    rw [e]
    go_enter Try.func164, Try.ntmps164
    go_wp2_with fail
    go_ret
    exact ⟨rfl, by go_grown⟩

set_option maxHeartbeats 4000000 in
theorem waits_any (ts : List T7) (A0 A1 A2 : Option Addr) (c0 n1 c1 n2 c2 : Nat) (tn : Int) (st : Bool) (k : Nat) (s l o wt on v t : Int) (ht : ts[k]? = some ⟨s, l, o, wt, on, v, t⟩) (hk : k < ts.length) (g : Nat) (w : World) (hlen : ts.length ≤ 1048576) (hg : Blk w g 34 #[.slice A0 ts.length c0, .slice A1 n1 c1, .slice A2 n2 c2, .int .i64 tn, .bool st]) (h0 : Row w A0 (tcells ts)) :
    Calls Try.prog 165 #[.pointer (some ⟨g, 0, none⟩), .int .i64 k] w fun r w' => r = .returned (.bool (waitsOk ts.length k wt on)) ∧ Below w.heap.size w w' := by
  have d0 : w.cell? ⟨g, 0, none⟩ = some (.slice A0 ts.length c0) := hg.cell 0
  obtain ⟨b', off, s', l', o', wt', on', v', t', rfl, _, ht', hb, z0, z1, z2, z3, z4, z5, z6⟩ := h0.ts_at hk
  rw [ht] at ht'
  injection ht' with ht'
  injection ht' with u0 u1 u2 u3 u4 u5 u6
  subst u0 u1 u2 u3 u4 u5 u6
  have hgl := hg.lt
  clear ht h0
  go_enter Try.func165, Try.ntmps165
  go_wp2_with fail
  have G := Below.refl w.heap.size w
  have kg := hg
  clear hg
  have kT := Blk.new w 46 #[.int .i64 s, .int .i64 l, .int .i64 o, .int .i64 wt, .int .i64 on, .int .i64 v, .int .i64 t]
  replace kg := kg.alloc (.cells #[.int .i64 s, .int .i64 l, .int .i64 o, .int .i64 wt, .int .i64 on, .int .i64 v, .int .i64 t] 46)
  have hbs := G.size
  replace G := G.alloc (by omega) (.cells #[.int .i64 s, .int .i64 l, .int .i64 o, .int .i64 wt, .int .i64 on, .int .i64 v, .int .i64 t] 46)
  have z1 : (w.alloc (.cells #[.int .i64 s, .int .i64 l, .int .i64 o, .int .i64 wt, .int .i64 on, .int .i64 v, .int .i64 t] 46)).heap.size = w.heap.size + 1 := by simp
  clear hbs
  generalize w.alloc (.cells #[.int .i64 s, .int .i64 l, .int .i64 o, .int .i64 wt, .int .i64 on, .int .i64 v, .int .i64 t] 46) = W1 at kg kT G z1 ⊢
  have hq : Hid (∀ x : KeptW W1, Calls Try.prog 133 #[.pointer (some ⟨g, 0, none⟩)] x.w fun r w' => r = .returned (.int .i64 (ts.length : Nat)) ∧ x.w = w') := hide (fun x => size_any ts (some ⟨b', off, none⟩) A1 A2 c0 n1 c1 n2 c2 tn st g _ (kg.below x.below kg.lt))
  have cg0 := KeptW.cell (W0 := W1) (b := g) (o := 0) (u := .slice (some ⟨b', off, none⟩) ts.length c0) (kg.cell 0)
  have cg1 := KeptW.cell (W0 := W1) (b := g) (o := 1) (u := .slice A1 n1 c1) (kg.cell 1)
  have cg2 := KeptW.cell (W0 := W1) (b := g) (o := 2) (u := .slice A2 n2 c2) (kg.cell 2)
  have cg3 := KeptW.cell (W0 := W1) (b := g) (o := 3) (u := .int .i64 tn) (kg.cell 3)
  have cg4 := KeptW.cell (W0 := W1) (b := g) (o := 4) (u := .bool st) (kg.cell 4)
  have cT0 := KeptW.cell (W0 := W1) (b := w.heap.size) (o := 0) (u := .int .i64 s) (kT.cell 0)
  have cT1 := KeptW.cell (W0 := W1) (b := w.heap.size) (o := 1) (u := .int .i64 l) (kT.cell 1)
  have cT2 := KeptW.cell (W0 := W1) (b := w.heap.size) (o := 2) (u := .int .i64 o) (kT.cell 2)
  have cT3 := KeptW.cell (W0 := W1) (b := w.heap.size) (o := 3) (u := .int .i64 wt) (kT.cell 3)
  have cT4 := KeptW.cell (W0 := W1) (b := w.heap.size) (o := 4) (u := .int .i64 on) (kT.cell 4)
  have cT5 := KeptW.cell (W0 := W1) (b := w.heap.size) (o := 5) (u := .int .i64 v) (kT.cell 5)
  have cT6 := KeptW.cell (W0 := W1) (b := w.heap.size) (o := 6) (u := .int .i64 t) (kT.cell 6)
  have HG := hide (⟨G, G.size⟩ : Below w.heap.size w W1 ∧ w.heap.size ≤ W1.heap.size)
  clear G kg kT d0 z0 z1 z2 z3 z4 z5 z6
  have hx0 := KeptW.mk'_w (Below.refl W1.heap.size W1)
  generalize KeptW.mk' (Below.refl W1.heap.size W1) = x at hx0
  rw [← hx0]
  clear hx0
  by_cases h1 : wt = 1
  · by_cases h2 : on < (ts.length : Int)
    · have h3 : decide (on < (ts.length : Int)) = true := by simpa using h2
      subst h1
      refine region_kept (by kernel_rfl) (by kernel_rfl) ?_
      repeat (go_big_quiet_step (first | (go_at_call 133; with_reducible exact (kept_same (hq.out _)))))
      refine wpQuiet_nil ?_
      rintro _ ⟨x, rfl⟩
      go_wp2
      go_ret
      exact ⟨ret_bool (by simp [waitsOk, h2, bne]), HG.out.1.trans (x.below.mono HG.out.2)⟩
    · have h3 : decide (on < (ts.length : Int)) = false := by simpa using h2
      subst h1
      refine region_kept (by kernel_rfl) (by kernel_rfl) ?_
      repeat (go_big_quiet_step (first | (go_at_call 133; with_reducible exact (kept_same (hq.out _)))))
      refine wpQuiet_nil ?_
      rintro _ ⟨x, rfl⟩
      go_wp2
      go_ret
      exact ⟨ret_bool (by simp [waitsOk]; intro h; omega), HG.out.1.trans (x.below.mono HG.out.2)⟩
  · have h3 : (wt == 1) = false := by simpa using h1
    have h4 : (wt != 1) = true := by simpa using h1
    refine region_kept (by kernel_rfl) (by kernel_rfl) ?_
    repeat (go_big_quiet_step (first | (go_at_call 133; with_reducible exact (kept_same (hq.out _)))))
    refine wpQuiet_nil ?_
    rintro _ ⟨x, rfl⟩
    go_wp2
    go_ret
    exact ⟨ret_bool (by simp [waitsOk, h1]), HG.out.1.trans (x.below.mono HG.out.2)⟩

set_option maxHeartbeats 8000000 in
theorem taskFits_any (a b c d e : Int) (ts : List T7) (A0 A1 A2 : Option Addr) (c0 n1 c1 n2 c2 : Nat) (tn : Int) (st : Bool) (k : Nat) (s l o wt on v t : Int) (ht : ts[k]? = some ⟨s, l, o, wt, on, v, t⟩) (hk : k < ts.length) (g : Nat) (w : World) (hlen : ts.length ≤ 1048576) (hg : Blk w g 34 #[.slice A0 ts.length c0, .slice A1 n1 c1, .slice A2 n2 c2, .int .i64 tn, .bool st]) (h0 : Row w A0 (tcells ts)) :
    Calls Try.prog 151 #[.pointer (some ⟨g, 0, none⟩), .agg #[.int .i64 a, .int .i64 b, .int .i64 c, .int .i64 d, .int .i64 e], .int .i64 k] w fun r w' => r = .returned (.bool (fitB a b c d e ts tn k ⟨s, l, o, wt, on, v, t⟩)) ∧ Below w.heap.size w w' := by
  have d0 : w.cell? ⟨g, 0, none⟩ = some (.slice A0 ts.length c0) := hg.cell 0
  obtain ⟨b', off, s', l', o', wt', on', v', t', rfl, _, ht', hb, z0, z1, z2, z3, z4, z5, z6⟩ := h0.ts_at hk
  rw [ht] at ht'
  injection ht' with ht'
  injection ht' with u0 u1 u2 u3 u4 u5 u6
  subst u0 u1 u2 u3 u4 u5 u6
  have hgl := hg.lt
  have h0' := hide h0
  have ht2 := hide ht
  clear ht h0
  unfold fitB
  go_enter Try.func151, Try.ntmps151
  go_wp2_with fail
  have G := Below.refl w.heap.size w
  have kg := hg
  clear hg
  have kP := Blk.new w 28 #[.int .i64 a, .int .i64 b, .int .i64 c, .int .i64 d, .int .i64 e]
  replace kg := kg.alloc (.cells #[.int .i64 a, .int .i64 b, .int .i64 c, .int .i64 d, .int .i64 e] 28)
  have hbs := G.size
  replace G := G.alloc (by omega) (.cells #[.int .i64 a, .int .i64 b, .int .i64 c, .int .i64 d, .int .i64 e] 28)
  have z1 : (w.alloc (.cells #[.int .i64 a, .int .i64 b, .int .i64 c, .int .i64 d, .int .i64 e] 28)).heap.size = w.heap.size + 1 := by simp
  clear hbs
  generalize w.alloc (.cells #[.int .i64 a, .int .i64 b, .int .i64 c, .int .i64 d, .int .i64 e] 28) = W1 at kg kP G z1 ⊢
  have kT : Blk (W1.alloc (.cells #[.int .i64 s, .int .i64 l, .int .i64 o, .int .i64 wt, .int .i64 on, .int .i64 v, .int .i64 t] 46)) (w.heap.size + 1) 46 #[.int .i64 s, .int .i64 l, .int .i64 o, .int .i64 wt, .int .i64 on, .int .i64 v, .int .i64 t] := by
    have h := Blk.new W1 46 #[.int .i64 s, .int .i64 l, .int .i64 o, .int .i64 wt, .int .i64 on, .int .i64 v, .int .i64 t]
    rw [show W1.heap.size = w.heap.size + 1 by omega] at h
    exact h
  replace kg := kg.alloc (.cells #[.int .i64 s, .int .i64 l, .int .i64 o, .int .i64 wt, .int .i64 on, .int .i64 v, .int .i64 t] 46)
  replace kP := kP.alloc (.cells #[.int .i64 s, .int .i64 l, .int .i64 o, .int .i64 wt, .int .i64 on, .int .i64 v, .int .i64 t] 46)
  have hbs := G.size
  replace G := G.alloc (by omega) (.cells #[.int .i64 s, .int .i64 l, .int .i64 o, .int .i64 wt, .int .i64 on, .int .i64 v, .int .i64 t] 46)
  have z2 : (W1.alloc (.cells #[.int .i64 s, .int .i64 l, .int .i64 o, .int .i64 wt, .int .i64 on, .int .i64 v, .int .i64 t] 46)).heap.size = W1.heap.size + 1 := by simp
  clear hbs
  generalize W1.alloc (.cells #[.int .i64 s, .int .i64 l, .int .i64 o, .int .i64 wt, .int .i64 on, .int .i64 v, .int .i64 t] 46) = W2 at kg kP kT G z2 ⊢
  have hq1 : Hid (∀ x : KeptW W2, Calls Try.prog 163 #[.agg #[.int .i64 s, .int .i64 l, .int .i64 o, .int .i64 wt, .int .i64 on, .int .i64 v, .int .i64 t], .agg #[.int .i64 a, .int .i64 b, .int .i64 c, .int .i64 d, .int .i64 e]] x.w fun r w' => r = .returned (.bool (taskB a b c d e s l o wt on v t)) ∧ Below x.w.heap.size x.w w') := hide (fun x => tright_any a b c d e s l o wt on v t _)
  have hq2 : Hid (∀ x : KeptW W2, Calls Try.prog 164 #[.pointer (some ⟨g, 0, none⟩), .int .i64 k] x.w fun r w' => r = .returned (.bool (soloTo ts k s o)) ∧ Below x.w.heap.size x.w w') := hide (fun x => runsAlone_any ts (some ⟨b', off, none⟩) A1 A2 c0 n1 c1 n2 c2 tn st k s l o wt on v t ht2.out hk g _ hlen (kg.below x.below kg.lt) ((h0'.out.below G).below x.below))
  have hq3 : Hid (∀ x : KeptW W2, Calls Try.prog 165 #[.pointer (some ⟨g, 0, none⟩), .int .i64 k] x.w fun r w' => r = .returned (.bool (waitsOk ts.length k wt on)) ∧ Below x.w.heap.size x.w w') := hide (fun x => waits_any ts (some ⟨b', off, none⟩) A1 A2 c0 n1 c1 n2 c2 tn st k s l o wt on v t ht2.out hk g _ hlen (kg.below x.below kg.lt) ((h0'.out.below G).below x.below))
  have cg0 := KeptW.cell (W0 := W2) (b := g) (o := 0) (u := .slice (some ⟨b', off, none⟩) ts.length c0) (kg.cell 0)
  have cg1 := KeptW.cell (W0 := W2) (b := g) (o := 1) (u := .slice A1 n1 c1) (kg.cell 1)
  have cg2 := KeptW.cell (W0 := W2) (b := g) (o := 2) (u := .slice A2 n2 c2) (kg.cell 2)
  have cg3 := KeptW.cell (W0 := W2) (b := g) (o := 3) (u := .int .i64 tn) (kg.cell 3)
  have cg4 := KeptW.cell (W0 := W2) (b := g) (o := 4) (u := .bool st) (kg.cell 4)
  have cP0 := KeptW.cell (W0 := W2) (b := w.heap.size) (o := 0) (u := .int .i64 a) (kP.cell 0)
  have cP1 := KeptW.cell (W0 := W2) (b := w.heap.size) (o := 1) (u := .int .i64 b) (kP.cell 1)
  have cP2 := KeptW.cell (W0 := W2) (b := w.heap.size) (o := 2) (u := .int .i64 c) (kP.cell 2)
  have cP3 := KeptW.cell (W0 := W2) (b := w.heap.size) (o := 3) (u := .int .i64 d) (kP.cell 3)
  have cP4 := KeptW.cell (W0 := W2) (b := w.heap.size) (o := 4) (u := .int .i64 e) (kP.cell 4)
  have cT0 := KeptW.cell (W0 := W2) (b := w.heap.size + 1) (o := 0) (u := .int .i64 s) (kT.cell 0)
  have cT1 := KeptW.cell (W0 := W2) (b := w.heap.size + 1) (o := 1) (u := .int .i64 l) (kT.cell 1)
  have cT2 := KeptW.cell (W0 := W2) (b := w.heap.size + 1) (o := 2) (u := .int .i64 o) (kT.cell 2)
  have cT3 := KeptW.cell (W0 := W2) (b := w.heap.size + 1) (o := 3) (u := .int .i64 wt) (kT.cell 3)
  have cT4 := KeptW.cell (W0 := W2) (b := w.heap.size + 1) (o := 4) (u := .int .i64 on) (kT.cell 4)
  have cT5 := KeptW.cell (W0 := W2) (b := w.heap.size + 1) (o := 5) (u := .int .i64 v) (kT.cell 5)
  have cT6 := KeptW.cell (W0 := W2) (b := w.heap.size + 1) (o := 6) (u := .int .i64 t) (kT.cell 6)
  have HG := hide (⟨G, G.size⟩ : Below w.heap.size w W2 ∧ w.heap.size ≤ W2.heap.size)
  clear G kg kP kT d0 z0 z1 z2 z3 z4 z5 z6
  have hx0 := KeptW.mk'_w (Below.refl W2.heap.size W2)
  generalize KeptW.mk' (Below.refl W2.heap.size W2) = x at hx0
  rw [← hx0]
  clear hx0
  generalize hx0 : taskB a b c d e s l o wt on v t = x0 at hq1
  generalize hx2 : soloTo ts k s o = x2 at hq2
  generalize hx3 : waitsOk ts.length k wt on = x3 at hq3
  have e0 := hide hx0
  have e2 := hide hx2
  have e3 := hide hx3
  clear hx0 hx2 hx3
  cases x0
  · refine region_kept (by kernel_rfl) (by kernel_rfl) ?_
    repeat (go_big_quiet_step (first | (go_at_call 163; with_reducible exact (kept_call (hq1.out _))) | (go_at_call 164; with_reducible exact (kept_call (hq2.out _))) | (go_at_call 165; with_reducible exact (kept_call (hq3.out _)))))
    refine wpQuiet_nil ?_
    rintro _ ⟨x, rfl⟩
    go_wp2
    go_ret
    exact ⟨ret_bool (by first | rfl | (rw [e0.out, e2.out, e3.out]; simp)), HG.out.1.trans (x.below.mono HG.out.2)⟩
  by_cases h1 : t < tn
  · have h2 : decide (t < tn) = true := by simpa using h1
    have hh := hide h1
    cases x2
    · refine region_kept (by kernel_rfl) (by kernel_rfl) ?_
      repeat (go_big_quiet_step (first | (go_at_call 163; with_reducible exact (kept_call (hq1.out _))) | (go_at_call 164; with_reducible exact (kept_call (hq2.out _))) | (go_at_call 165; with_reducible exact (kept_call (hq3.out _)))))
      refine wpQuiet_nil ?_
      rintro _ ⟨x, rfl⟩
      go_wp2
      go_ret
      exact ⟨ret_bool (by first | rfl | (rw [e0.out, e2.out, e3.out]; simp)), HG.out.1.trans (x.below.mono HG.out.2)⟩
    · refine region_kept (by kernel_rfl) (by kernel_rfl) ?_
      repeat (go_big_quiet_step (first | (go_at_call 163; with_reducible exact (kept_call (hq1.out _))) | (go_at_call 164; with_reducible exact (kept_call (hq2.out _))) | (go_at_call 165; with_reducible exact (kept_call (hq3.out _)))))
      refine wpQuiet_nil ?_
      rintro _ ⟨x, rfl⟩
      go_wp2
      go_ret
      exact ⟨ret_bool (by first | rfl | (rw [e0.out, e2.out, e3.out]; simp [hh.out])), HG.out.1.trans (x.below.mono HG.out.2)⟩
  · have h2 : decide (t < tn) = false := by simpa using h1
    have hh := hide h1
    refine region_kept (by kernel_rfl) (by kernel_rfl) ?_
    repeat (go_big_quiet_step (first | (go_at_call 163; with_reducible exact (kept_call (hq1.out _))) | (go_at_call 164; with_reducible exact (kept_call (hq2.out _))) | (go_at_call 165; with_reducible exact (kept_call (hq3.out _)))))
    refine wpQuiet_nil ?_
    rintro _ ⟨x, rfl⟩
    go_wp2
    go_ret
    exact ⟨ret_bool (by first | rfl | (rw [e0.out, e2.out, e3.out]; simp [hh.out])), HG.out.1.trans (x.below.mono HG.out.2)⟩

set_option maxHeartbeats 4000000 in
theorem tasksRight_any (a b c d e : Int) (ts : List T7) (A0 A1 A2 : Option Addr) (c0 n1 c1 n2 c2 : Nat) (tn : Int) (st : Bool) (g : Nat) (w : World) (hb30 : b ≤ 30) (hg : Blk w g 34 #[.slice A0 ts.length c0, .slice A1 n1 c1, .slice A2 n2 c2, .int .i64 tn, .bool st]) (h0 : Row w A0 (tcells ts)) :
    Calls Try.prog 111 #[.pointer (some ⟨g, 0, none⟩), .agg #[.int .i64 a, .int .i64 b, .int .i64 c, .int .i64 d, .int .i64 e]] w fun r w' => r = .returned (.bool (decide ((ts.length : Int) ≤ b) && tasksB a b c d e ts tn)) ∧ Below w.heap.size w w' := by
  have h0' := hide h0
  have hgl := hg.lt
  clear h0
  unfold tasksB
  go_enter Try.func111, Try.ntmps111
  go_wp2_with fail
  have G := Below.refl w.heap.size w
  have kg := hg
  clear hg
  have kP := Blk.new w 28 #[.int .i64 a, .int .i64 b, .int .i64 c, .int .i64 d, .int .i64 e]
  replace kg := kg.alloc (.cells #[.int .i64 a, .int .i64 b, .int .i64 c, .int .i64 d, .int .i64 e] 28)
  have hbs := G.size
  replace G := G.alloc (by omega) (.cells #[.int .i64 a, .int .i64 b, .int .i64 c, .int .i64 d, .int .i64 e] 28)
  have z1 : (w.alloc (.cells #[.int .i64 a, .int .i64 b, .int .i64 c, .int .i64 d, .int .i64 e] 28)).heap.size = w.heap.size + 1 := by simp
  clear hbs
  generalize w.alloc (.cells #[.int .i64 a, .int .i64 b, .int .i64 c, .int .i64 d, .int .i64 e] 28) = W1 at kg kP G z1 ⊢
  have hq : Hid (∀ x : KeptW W1, Calls Try.prog 133 #[.pointer (some ⟨g, 0, none⟩)] x.w fun r w' => r = .returned (.int .i64 (ts.length : Nat)) ∧ x.w = w') := hide (fun x => size_any ts A0 A1 A2 c0 n1 c1 n2 c2 tn st g _ (kg.below x.below kg.lt))
  have HB := hide (⟨kg, kP⟩ : _ ∧ _)
  have cg0 := KeptW.cell (W0 := W1) (b := g) (o := 0) (u := .slice A0 ts.length c0) (kg.cell 0)
  have cg1 := KeptW.cell (W0 := W1) (b := g) (o := 1) (u := .slice A1 n1 c1) (kg.cell 1)
  have cg2 := KeptW.cell (W0 := W1) (b := g) (o := 2) (u := .slice A2 n2 c2) (kg.cell 2)
  have cg3 := KeptW.cell (W0 := W1) (b := g) (o := 3) (u := .int .i64 tn) (kg.cell 3)
  have cg4 := KeptW.cell (W0 := W1) (b := g) (o := 4) (u := .bool st) (kg.cell 4)
  have cP0 := KeptW.cell (W0 := W1) (b := w.heap.size) (o := 0) (u := .int .i64 a) (kP.cell 0)
  have cP1 := KeptW.cell (W0 := W1) (b := w.heap.size) (o := 1) (u := .int .i64 b) (kP.cell 1)
  have cP2 := KeptW.cell (W0 := W1) (b := w.heap.size) (o := 2) (u := .int .i64 c) (kP.cell 2)
  have cP3 := KeptW.cell (W0 := W1) (b := w.heap.size) (o := 3) (u := .int .i64 d) (kP.cell 3)
  have cP4 := KeptW.cell (W0 := W1) (b := w.heap.size) (o := 4) (u := .int .i64 e) (kP.cell 4)
  have HG := hide (⟨G, G.size⟩ : Below w.heap.size w W1 ∧ w.heap.size ≤ W1.heap.size)
  clear kg kP
  clear G 
  have hx0 := KeptW.mk'_w (Below.refl W1.heap.size W1)
  generalize KeptW.mk' (Below.refl W1.heap.size W1) = x at hx0
  rw [← hx0]
  clear hx0
  refine region_kept (by kernel_rfl) (by kernel_rfl) ?_
  repeat (go_big_quiet_step (first | (go_at_call 133; with_reducible exact (kept_same (hq.out _)))))
  refine wpQuiet_nil ?_
  rintro _ ⟨x, rfl⟩
  by_cases hle : (ts.length : Int) ≤ b
  · have hgt : ¬ (b < (ts.length : Int)) := by omega
    go_wp2_with fail
    go_call (size_any ts A0 A1 A2 c0 n1 c1 n2 c2 tn st g x.w (HB.out.1.below x.below HB.out.1.lt)) as r w1 ⟨rfl, rfl⟩
    go_wp2_with fail
    go_loopw [13] (fun i wr => ∃ (k : Nat), k ≤ ts.length ∧ i = .int .i64 k ∧ allFrom (fitB a b c d e ts tn) 0 ts = allFrom (fitB a b c d e ts tn) k (ts.drop k) ∧ Below (World.heap W1).size W1 wr) (fun i _ => ts.length - (intOf i).toNat)
    case atStart => exact ⟨0, Nat.zero_le _, rfl, rfl, x.below⟩
    case round =>
      obtain ⟨k, hk, rfl, hm, hbel⟩ := hrel
      have Hm := hide hm
      clear hm
      have kP := HB.out.2.below hbel HB.out.2.lt
      have kg := HB.out.1.below hbel HB.out.1.lt
      obtain ⟨tP, qP0, qP1, qP2, qP3, qP4⟩ := kP.q5
      have hz := hbel.size
      by_cases hlt : k < ts.length
      · obtain ⟨s, l, o, wt, on, v, t, ht⟩ : ∃ s l o wt on v t : Int, ts[k]? = some ⟨s, l, o, wt, on, v, t⟩ := ⟨_, _, _, _, _, _, _, by rw [List.getElem?_eq_getElem hlt]⟩
        have hd := hide (List.drop_eq_getElem_cons hlt)
        have he : ts[k] = ⟨s, l, o, wt, on, v, t⟩ := by rw [List.getElem?_eq_getElem hlt] at ht; injection ht
        have He := hide he
        have ht2 := hide ht
        clear he ht
        have hcon : Hid (∀ V, Below wr.heap.size wr V → Calls Try.prog 151 #[.pointer (some ⟨g, 0, none⟩), .agg #[.int .i64 a, .int .i64 b, .int .i64 c, .int .i64 d, .int .i64 e], .int .i64 k] V fun r w' => r = .returned (.bool (fitB a b c d e ts tn k ⟨s, l, o, wt, on, v, t⟩)) ∧ Below V.heap.size V w') := hide (fun V hV => taskFits_any a b c d e ts A0 A1 A2 c0 n1 c1 n2 c2 tn st k s l o wt on v t ht2.out hlt g V (by omega) (kg.below hV kg.lt) (((h0'.out.below HG.out.1).below hbel).below hV))
        generalize hfit : fitB a b c d e ts tn k ⟨s, l, o, wt, on, v, t⟩ = x1 at hcon
        have Hf := hide hfit
        clear hfit kg kP
        go_wp2_with fail
        go_call (hcon.out _ (Below.refl _ _)) as r w2 ⟨rfl, hb2⟩
        have hz2 := hb2.size
        cases x1
        · go_wp2
          go_ret
          refine ⟨ret_bool ?_, HG.out.1.trans ((hbel.trans (hb2.mono hz)).mono HG.out.2)⟩
          rw [Hm.out, hd.out, He.out]; simp [allFrom, Hf.out]
        · go_wp2
          go_roundw
          case rel => exact ⟨k + 1, by omega, by go_num, by rw [Hm.out, hd.out, He.out]; simp [allFrom, Hf.out], hbel.trans (hb2.mono hz)⟩
          case measure => simp [intOf]; omega
      · go_wp2
        go_ret
        obtain rfl : k = ts.length := by omega
        refine ⟨ret_bool ?_, HG.out.1.trans (hbel.mono HG.out.2)⟩
        rw [Hm.out]; simp [allFrom, hle]
  · have hgt : b < (ts.length : Int) := by omega
    go_wp2_with fail
    go_ret
    exact ⟨ret_bool (by simp; intro h; omega), HG.out.1.trans (x.below.mono HG.out.2)⟩

set_option maxHeartbeats 4000000 in
theorem tokensRight_any (a b c d e : Int) (ts : List T7) (ks : List Int) (fs : List F2) (A0 A1 A2 : Option Addr) (c0 c1 c2 : Nat) (tn : Int) (st : Bool) (g : Nat) (w : World) (hlen : ks.length ≤ 30 ∨ ks.length ≤ 1048576) (hg : Blk w g 34 #[.slice A0 ts.length c0, .slice A1 ks.length c1, .slice A2 fs.length c2, .int .i64 tn, .bool st]) (h0 : Row w A1 (icells ks)) :
    Calls Try.prog 112 #[.pointer (some ⟨g, 0, none⟩), .agg #[.int .i64 a, .int .i64 b, .int .i64 c, .int .i64 d, .int .i64 e]] w fun r w' => r = .returned (.bool (ks.all tokB && decide ((ks.length : Int) = d))) ∧ Below w.heap.size w w' := by
  have h0' := hide h0
  have hgl := hg.lt
  have hl2 : ks.length ≤ 1048576 := by omega
  clear h0 hlen
  go_enter Try.func112, Try.ntmps112
  have d1 : w.cell? ⟨g, 1, none⟩ = some (.slice A1 ks.length c1) := hg.cell 1
  go_wp2_with fail
  have G := Below.refl w.heap.size w
  have kg := hg
  clear hg
  have kP := Blk.new w 28 #[.int .i64 a, .int .i64 b, .int .i64 c, .int .i64 d, .int .i64 e]
  replace kg := kg.alloc (.cells #[.int .i64 a, .int .i64 b, .int .i64 c, .int .i64 d, .int .i64 e] 28)
  have hbs := G.size
  replace G := G.alloc (by omega) (.cells #[.int .i64 a, .int .i64 b, .int .i64 c, .int .i64 d, .int .i64 e] 28)
  have z1 : (w.alloc (.cells #[.int .i64 a, .int .i64 b, .int .i64 c, .int .i64 d, .int .i64 e] 28)).heap.size = w.heap.size + 1 := by simp
  clear hbs
  generalize w.alloc (.cells #[.int .i64 a, .int .i64 b, .int .i64 c, .int .i64 d, .int .i64 e] 28) = W1 at kg kP G z1 ⊢
  have HB := hide (⟨kg, kP, G, G.size⟩ : _ ∧ _ ∧ Below w.heap.size w W1 ∧ w.heap.size ≤ W1.heap.size)
  clear kg kP G
  go_loopw [12] (fun i wr => ∃ (k : Nat), k ≤ ks.length ∧ i = .int .i64 k ∧ ks.all tokB = (ks.drop k).all tokB ∧ Below W1.heap.size W1 wr) (fun i _ => ks.length - (intOf i).toNat)
  case atStart => exact ⟨0, Nat.zero_le _, rfl, rfl, Below.refl _ _⟩
  case round =>
    obtain ⟨k, hk, rfl, hm, hbel⟩ := hrel
    have Hm := hide hm
    clear hm
    have hz := hbel.size
    by_cases hlt : k < ks.length
    · obtain ⟨b', off, v, rfl, hd, _, hb, z0⟩ := ((h0'.out.below HB.out.2.2.1).below hbel).ks_at hlt
      have Hd := hide hd
      clear hd
      go_wp2_with fail
      go_call (between_any v 0 100 wr) as r w2 ⟨rfl, rfl⟩
      generalize hx : btw v 0 100 = x1
      have Hx := hide hx
      clear hx
      cases x1
      · go_wp2
        go_ret
        refine ⟨ret_bool ?_, HB.out.2.2.1.trans (hbel.mono HB.out.2.2.2)⟩
        rw [Hm.out, Hd.out]; simp [tokB, Hx.out]
      · go_wp2
        go_roundw
        case rel => exact ⟨k + 1, by omega, by go_num, by rw [Hm.out, Hd.out]; simp [tokB, Hx.out], hbel⟩
        case measure => simp [intOf]; omega
    · obtain rfl : k = ks.length := by omega
      have kg := HB.out.1.below hbel HB.out.1.lt
      have kP := HB.out.2.1.below hbel HB.out.2.1.lt
      obtain ⟨tg, qg0, qg1, qg2, qg3, qg4⟩ := kg.q5
      obtain ⟨tP, qP0, qP1, qP2, qP3, qP4⟩ := kP.q5
      clear kg kP
      go_wp2_with fail
      go_quiet (fail)
      go_wp2
      go_ret
      refine ⟨ret_bool ?_, HB.out.2.2.1.trans ((below_drewN hbel _).mono HB.out.2.2.2)⟩
      rw [Hm.out, Bool.eq_iff_iff]; simp

set_option maxHeartbeats 4000000 in
theorem futuresRight_any (a b c d e : Int) (ts : List T7) (ks : List Int) (fs : List F2) (A0 A1 A2 : Option Addr) (c0 c1 c2 : Nat) (tn : Int) (st : Bool) (g : Nat) (w : World) (hlen : fs.length ≤ 30 ∨ fs.length ≤ 1048576) (hg : Blk w g 34 #[.slice A0 ts.length c0, .slice A1 ks.length c1, .slice A2 fs.length c2, .int .i64 tn, .bool st]) (h0 : Row w A2 (fcells fs)) :
    Calls Try.prog 113 #[.pointer (some ⟨g, 0, none⟩), .agg #[.int .i64 a, .int .i64 b, .int .i64 c, .int .i64 d, .int .i64 e]] w fun r w' => r = .returned (.bool (fs.all futB && decide ((fs.length : Int) = e))) ∧ Below w.heap.size w w' := by
  have h0' := hide h0
  have hgl := hg.lt
  have hl2 : fs.length ≤ 1048576 := by omega
  clear h0 hlen
  go_enter Try.func113, Try.ntmps113
  have d2 : w.cell? ⟨g, 2, none⟩ = some (.slice A2 fs.length c2) := hg.cell 2
  go_wp2_with fail
  have G := Below.refl w.heap.size w
  have kg := hg
  clear hg
  have kP := Blk.new w 28 #[.int .i64 a, .int .i64 b, .int .i64 c, .int .i64 d, .int .i64 e]
  replace kg := kg.alloc (.cells #[.int .i64 a, .int .i64 b, .int .i64 c, .int .i64 d, .int .i64 e] 28)
  have hbs := G.size
  replace G := G.alloc (by omega) (.cells #[.int .i64 a, .int .i64 b, .int .i64 c, .int .i64 d, .int .i64 e] 28)
  have z1 : (w.alloc (.cells #[.int .i64 a, .int .i64 b, .int .i64 c, .int .i64 d, .int .i64 e] 28)).heap.size = w.heap.size + 1 := by simp
  clear hbs
  generalize w.alloc (.cells #[.int .i64 a, .int .i64 b, .int .i64 c, .int .i64 d, .int .i64 e] 28) = W1 at kg kP G z1 ⊢
  have HB := hide (⟨kg, kP, G, G.size⟩ : _ ∧ _ ∧ Below w.heap.size w W1 ∧ w.heap.size ≤ W1.heap.size)
  clear kg kP G
  go_loopw [12] (fun i wr => ∃ (k : Nat), k ≤ fs.length ∧ i = .int .i64 k ∧ fs.all futB = (fs.drop k).all futB ∧ Below W1.heap.size W1 wr) (fun i _ => fs.length - (intOf i).toNat)
  case atStart => exact ⟨0, Nat.zero_le _, rfl, rfl, Below.refl _ _⟩
  case round =>
    obtain ⟨k, hk, rfl, hm, hbel⟩ := hrel
    have Hm := hide hm
    clear hm
    have hz := hbel.size
    by_cases hlt : k < fs.length
    · obtain ⟨b', off, s, v, rfl, hd, _, hb, z0, z1⟩ := ((h0'.out.below HB.out.2.2.1).below hbel).fs_at hlt
      have Hd := hide hd
      clear hd
      go_wp2_with fail
      go_call (futRight_any s v _) as r w2 ⟨rfl, hb2⟩
      have hb3 : Below W1.heap.size W1 w2 := Below.trans (hbel.alloc hz _) (hb2.mono (by have := hz; simp; omega))
      generalize hx : futB ⟨s, v⟩ = x1
      have Hx := hide hx
      clear hx hb2
      cases x1
      · go_wp2
        go_ret
        refine ⟨ret_bool ?_, HB.out.2.2.1.trans (hb3.mono HB.out.2.2.2)⟩
        rw [Hm.out, Hd.out]; simp [Hx.out]
      · go_wp2
        go_roundw
        case rel => exact ⟨k + 1, by omega, by go_num, by rw [Hm.out, Hd.out]; simp [Hx.out], hb3⟩
        case measure => simp [intOf]; omega
    · obtain rfl : k = fs.length := by omega
      have kg := HB.out.1.below hbel HB.out.1.lt
      have kP := HB.out.2.1.below hbel HB.out.2.1.lt
      obtain ⟨tg, qg0, qg1, qg2, qg3, qg4⟩ := kg.q5
      obtain ⟨tP, qP0, qP1, qP2, qP3, qP4⟩ := kP.q5
      clear kg kP
      go_wp2_with fail
      go_quiet (fail)
      go_wp2
      go_ret
      refine ⟨ret_bool ?_, HB.out.2.2.1.trans ((below_drewN hbel _).mono HB.out.2.2.2)⟩
      rw [Hm.out, Bool.eq_iff_iff]; simp

set_option maxHeartbeats 4000000 in
theorem pright_any (a b c d e : Int) (ts : List T7) (ks : List Int) (fs : List F2) (A0 A1 A2 : Option Addr) (c0 c1 c2 : Nat) (tn : Int) (st : Bool) (g : Nat) (w : World) (hk : ks.length ≤ 1048576) (hf : fs.length ≤ 1048576) (hg : Blk w g 34 #[.slice A0 ts.length c0, .slice A1 ks.length c1, .slice A2 fs.length c2, .int .i64 tn, .bool st]) (h : InPool w ts ks fs A0 A1 A2) :
    Calls Try.prog 57 #[.pointer (some ⟨g, 0, none⟩), .agg #[.int .i64 a, .int .i64 b, .int .i64 c, .int .i64 d, .int .i64 e]] w fun r w' => r = .returned (.bool (poolB a b c d e ts ks fs tn)) ∧ Below w.heap.size w w' := by
  have H := hide h
  have hgl := hg.lt
  clear h
  have hb30 : Hid (planB a b c d e = true → b ≤ 30) := hide (fun h => by have := planB_all h; omega)
  have q0 : Hid (∀ V, Calls Try.prog 47 #[.agg #[.int .i64 a, .int .i64 b, .int .i64 c, .int .i64 d, .int .i64 e]] V fun r w' => r = .returned (.bool (planB a b c d e)) ∧ Below V.heap.size V w') := hide (fun V => right_any a b c d e V)
  have q1 : Hid (∀ V, Calls Try.prog 104 #[.int .i64 tn, .int .i64 0, .int .i64 1000000] V fun r w' => r = .returned (.bool (btw tn 0 1000000)) ∧ V = w') := hide (fun V => between_any tn 0 1000000 V)
  have q2 : Hid (planB a b c d e = true → ∀ V, Below w.heap.size w V → Calls Try.prog 111 #[.pointer (some ⟨g, 0, none⟩), .agg #[.int .i64 a, .int .i64 b, .int .i64 c, .int .i64 d, .int .i64 e]] V fun r w' => r = .returned (.bool (decide ((ts.length : Int) ≤ b) && tasksB a b c d e ts tn)) ∧ Below V.heap.size V w') := hide (fun hp V hV => tasksRight_any a b c d e ts A0 A1 A2 c0 ks.length c1 fs.length c2 tn st g V (hb30.out hp) (hg.below hV hg.lt) (H.out.1.below hV))
  have q3 : Hid (∀ V, Below w.heap.size w V → Calls Try.prog 112 #[.pointer (some ⟨g, 0, none⟩), .agg #[.int .i64 a, .int .i64 b, .int .i64 c, .int .i64 d, .int .i64 e]] V fun r w' => r = .returned (.bool (ks.all tokB && decide ((ks.length : Int) = d))) ∧ Below V.heap.size V w') := hide (fun V hV => tokensRight_any a b c d e ts ks fs A0 A1 A2 c0 c1 c2 tn st g V (.inr hk) (hg.below hV hg.lt) (H.out.2.1.below hV))
  have q4 : Hid (∀ V, Below w.heap.size w V → Calls Try.prog 113 #[.pointer (some ⟨g, 0, none⟩), .agg #[.int .i64 a, .int .i64 b, .int .i64 c, .int .i64 d, .int .i64 e]] V fun r w' => r = .returned (.bool (fs.all futB && decide ((fs.length : Int) = e))) ∧ Below V.heap.size V w') := hide (fun V hV => futuresRight_any a b c d e ts ks fs A0 A1 A2 c0 c1 c2 tn st g V (.inr hf) (hg.below hV hg.lt) (H.out.2.2.below hV))
  unfold poolB
  clear hb30
  generalize planB a b c d e = x0 at q0 q2 ⊢
  generalize btw tn 0 1000000 = x1 at q1 ⊢
  generalize (decide ((ts.length : Int) ≤ b) && tasksB a b c d e ts tn) = x2 at q2 ⊢
  generalize (ks.all tokB && decide ((ks.length : Int) = d)) = x3 at q3 ⊢
  generalize (fs.all futB && decide ((fs.length : Int) = e)) = x4 at q4 ⊢
  have d3 : w.cell? ⟨g, 3, none⟩ = some (.int .i64 tn) := hg.cell 3
  go_enter Try.func57, Try.ntmps57
  go_wp2_with fail
  have G := Below.refl w.heap.size w
  have kg := hg
  have kP := Blk.new w 28 #[.int .i64 a, .int .i64 b, .int .i64 c, .int .i64 d, .int .i64 e]
  replace kg := kg.alloc (.cells #[.int .i64 a, .int .i64 b, .int .i64 c, .int .i64 d, .int .i64 e] 28)
  have hbs := G.size
  replace G := G.alloc (by omega) (.cells #[.int .i64 a, .int .i64 b, .int .i64 c, .int .i64 d, .int .i64 e] 28)
  have z1 : (w.alloc (.cells #[.int .i64 a, .int .i64 b, .int .i64 c, .int .i64 d, .int .i64 e] 28)).heap.size = w.heap.size + 1 := by simp
  clear hbs
  generalize w.alloc (.cells #[.int .i64 a, .int .i64 b, .int .i64 c, .int .i64 d, .int .i64 e] 28) = W1 at kg kP G z1 ⊢
  go_call (q0.out _) as r W2 ⟨rfl, g1⟩
  have hbs := G.size
  replace kg := kg.below g1 kg.lt
  replace kP := kP.below g1 kP.lt
  replace G := G.trans (g1.mono (by omega))
  have z2 := g1.size
  clear g1 hbs
  cases x0
  · obtain ⟨tg, qg0, qg1, qg2, qg3, qg4⟩ := kg.q5
    obtain ⟨tP, qP0, qP1, qP2, qP3, qP4⟩ := kP.q5
    go_wp2_with fail
    go_ret
    exact ⟨rfl, G⟩
  obtain ⟨tg, qg0, qg1, qg2, qg3, qg4⟩ := kg.q5
  obtain ⟨tP, qP0, qP1, qP2, qP3, qP4⟩ := kP.q5
  go_wp2_with fail
  go_call (q1.out _) as r W3 ⟨rfl, rfl⟩
  cases x1
  · go_wp2_with fail
    go_ret
    exact ⟨rfl, G⟩
  go_wp2_with fail
  go_call (q2.out (by simp) _ G) as r W3 ⟨rfl, g1⟩
  clear tg qg0 qg1 qg2 qg3 qg4 tP qP0 qP1 qP2 qP3 qP4
  have hbs := G.size
  replace kg := kg.below g1 kg.lt
  replace kP := kP.below g1 kP.lt
  replace G := G.trans (g1.mono (by omega))
  have z3 := g1.size
  clear g1 hbs
  cases x2
  · obtain ⟨tg, qg0, qg1, qg2, qg3, qg4⟩ := kg.q5
    obtain ⟨tP, qP0, qP1, qP2, qP3, qP4⟩ := kP.q5
    go_wp2_with fail
    go_ret
    exact ⟨rfl, G⟩
  obtain ⟨tg, qg0, qg1, qg2, qg3, qg4⟩ := kg.q5
  obtain ⟨tP, qP0, qP1, qP2, qP3, qP4⟩ := kP.q5
  go_wp2_with fail
  go_call (q3.out _ G) as r W4 ⟨rfl, g1⟩
  clear tg qg0 qg1 qg2 qg3 qg4 tP qP0 qP1 qP2 qP3 qP4
  have hbs := G.size
  replace kg := kg.below g1 kg.lt
  replace kP := kP.below g1 kP.lt
  replace G := G.trans (g1.mono (by omega))
  have z4 := g1.size
  clear g1 hbs
  cases x3
  · obtain ⟨tg, qg0, qg1, qg2, qg3, qg4⟩ := kg.q5
    obtain ⟨tP, qP0, qP1, qP2, qP3, qP4⟩ := kP.q5
    go_wp2_with fail
    go_ret
    exact ⟨rfl, G⟩
  obtain ⟨tg, qg0, qg1, qg2, qg3, qg4⟩ := kg.q5
  obtain ⟨tP, qP0, qP1, qP2, qP3, qP4⟩ := kP.q5
  go_wp2_with fail
  go_call (q4.out _ G) as r W5 ⟨rfl, g1⟩
  clear tg qg0 qg1 qg2 qg3 qg4 tP qP0 qP1 qP2 qP3 qP4
  have hbs := G.size
  replace kg := kg.below g1 kg.lt
  replace kP := kP.below g1 kP.lt
  replace G := G.trans (g1.mono (by omega))
  have z5 := g1.size
  clear g1 hbs
  obtain ⟨tg, qg0, qg1, qg2, qg3, qg4⟩ := kg.q5
  obtain ⟨tP, qP0, qP1, qP2, qP3, qP4⟩ := kP.q5
  go_wp2_with fail
  go_ret
  exact ⟨rfl, G⟩

set_option maxHeartbeats 4000000 in
theorem gPoolOk_any (a b c d e : Int) (ts : List T7) (ks : List Int) (fs : List F2) (A0 A1 A2 : Option Addr) (c0 c1 c2 : Nat) (tn : Int) (st : Bool) (w : World) (hk : ks.length ≤ 1048576) (hf : fs.length ≤ 1048576) (h : InPool w ts ks fs A0 A1 A2) :
    Calls Try.prog 20 #[.agg #[.int .i64 a, .int .i64 b, .int .i64 c, .int .i64 d, .int .i64 e], .agg #[.slice A0 ts.length c0, .slice A1 ks.length c1, .slice A2 fs.length c2, .int .i64 tn, .bool st]] w fun r w' => r = .returned (.bool (poolB a b c d e ts ks fs tn)) ∧ Below w.heap.size w w' := by
  have H := hide h
  clear h
  go_enter Try.func20, Try.ntmps20
  go_wp2_with fail
  have G := Below.refl w.heap.size w
  have kP := Blk.new w 28 #[.int .i64 a, .int .i64 b, .int .i64 c, .int .i64 d, .int .i64 e]
  have hbs := G.size
  replace G := G.alloc (by omega) (.cells #[.int .i64 a, .int .i64 b, .int .i64 c, .int .i64 d, .int .i64 e] 28)
  have z1 : (w.alloc (.cells #[.int .i64 a, .int .i64 b, .int .i64 c, .int .i64 d, .int .i64 e] 28)).heap.size = w.heap.size + 1 := by simp
  clear hbs
  generalize w.alloc (.cells #[.int .i64 a, .int .i64 b, .int .i64 c, .int .i64 d, .int .i64 e] 28) = W1 at kP G z1 ⊢
  have kX : Blk (W1.alloc (.cells #[.slice A0 ts.length c0, .slice A1 ks.length c1, .slice A2 fs.length c2, .int .i64 tn, .bool st] 34)) (w.heap.size + 1) 34 #[.slice A0 ts.length c0, .slice A1 ks.length c1, .slice A2 fs.length c2, .int .i64 tn, .bool st] := by
    have h := Blk.new W1 34 #[.slice A0 ts.length c0, .slice A1 ks.length c1, .slice A2 fs.length c2, .int .i64 tn, .bool st]
    rw [show W1.heap.size = w.heap.size + 1 by omega] at h
    exact h
  replace kP := kP.alloc (.cells #[.slice A0 ts.length c0, .slice A1 ks.length c1, .slice A2 fs.length c2, .int .i64 tn, .bool st] 34)
  have hbs := G.size
  replace G := G.alloc (by omega) (.cells #[.slice A0 ts.length c0, .slice A1 ks.length c1, .slice A2 fs.length c2, .int .i64 tn, .bool st] 34)
  have z2 : (W1.alloc (.cells #[.slice A0 ts.length c0, .slice A1 ks.length c1, .slice A2 fs.length c2, .int .i64 tn, .bool st] 34)).heap.size = W1.heap.size + 1 := by simp
  clear hbs
  generalize W1.alloc (.cells #[.slice A0 ts.length c0, .slice A1 ks.length c1, .slice A2 fs.length c2, .int .i64 tn, .bool st] 34) = W2 at kP kX G z2 ⊢
  go_call (pright_any a b c d e ts ks fs A0 A1 A2 c0 c1 c2 tn st (w.heap.size + 1) _ hk hf kX (H.out.below G)) as r W3 ⟨rfl, g1⟩
  have hbs := G.size
  replace kP := kP.below g1 kP.lt
  replace kX := kX.below g1 kX.lt
  replace G := G.trans (g1.mono (by omega))
  have z3 := g1.size
  clear g1 hbs
  obtain ⟨tP, qP0, fP0, qP1, fP1, qP2, fP2, qP3, fP3, qP4, fP4⟩ := kP.f5
  obtain ⟨tX, qX0, fX0, qX1, fX1, qX2, fX2, qX3, fX3, qX4, fX4⟩ := kX.f5
  go_wp2_with fail
  go_ret
  exact ⟨rfl, G⟩
end Go.Proofs.Ytgncjcnobojgbaa

namespace Go.Proofs.Ytgncjcnobojgbaa
open Go.RowKit
set_option linter.unusedVariables false

theorem solo_step (ts : List T7) (k : Nat) (u : T7) (s o : Int) (h : ts[k]? = some u) : soloTo ts (k + 1) s o = (soloTo ts k s o && (!(s == 2) || !(u.s == 2 && u.o == o))) := by
  simp only [soloTo, List.take_add_one, h, Option.toList_some, List.all_append, List.all_cons, List.all_nil, Bool.and_true]
  cases (s == 2) <;> simp
theorem solo_false (ts : List T7) (j k : Nat) (hj : j < k) (u : T7) (s o : Int) (h : ts[j]? = some u) (h1 : s = 2) (h2 : u.s = 2) (h3 : u.o = o) : soloTo ts k s o = false := by
  have hm : u ∈ ts.take k := by
    rw [List.mem_iff_getElem?]
    exact ⟨j, by rw [List.getElem?_take, if_pos hj, h]⟩
  have : (ts.take k).all (fun u => !(u.s == 2 && u.o == o)) = false := by
    rw [List.all_eq_false]
    exact ⟨u, hm, by simp [h2, h3]⟩
  rw [soloTo, this]; simp [h1]

set_option maxRecDepth 100000 in
set_option maxHeartbeats 8000000 in
theorem l3Tasks_any (a b c d e : Int) (ts : List T7) (A0 A1 A2 : Option Addr) (c0 n1 c1 n2 c2 : Nat) (tn : Int) (st : Bool) (w : World) (hlen : ts.length ≤ 1048576) (h0 : Row w A0 (tcells ts)) :
    Calls Try.prog 61 #[.agg #[.int .i64 a, .int .i64 b, .int .i64 c, .int .i64 d, .int .i64 e], .agg #[.slice A0 ts.length c0, .slice A1 n1 c1, .slice A2 n2 c2, .int .i64 tn, .bool st]] w fun r w' => r = .returned (.bool (tasksB a b c d e ts tn)) ∧ Below w.heap.size w w' := by
  have h0' := hide h0
  clear h0
  unfold tasksB
  go_enter Try.func61, Try.ntmps61
  go_wp2_with fail
  have G := Below.refl w.heap.size w
  have kP := Blk.new w 28 #[.int .i64 a, .int .i64 b, .int .i64 c, .int .i64 d, .int .i64 e]
  have hbs := G.size
  replace G := G.alloc (by omega) (.cells #[.int .i64 a, .int .i64 b, .int .i64 c, .int .i64 d, .int .i64 e] 28)
  have z1 : (w.alloc (.cells #[.int .i64 a, .int .i64 b, .int .i64 c, .int .i64 d, .int .i64 e] 28)).heap.size = w.heap.size + 1 := by simp
  clear hbs
  generalize w.alloc (.cells #[.int .i64 a, .int .i64 b, .int .i64 c, .int .i64 d, .int .i64 e] 28) = W1 at kP G z1 ⊢
  have kX : Blk (W1.alloc (.cells #[.slice A0 ts.length c0, .slice A1 n1 c1, .slice A2 n2 c2, .int .i64 tn, .bool st] 34)) (w.heap.size + 1) 34 #[.slice A0 ts.length c0, .slice A1 n1 c1, .slice A2 n2 c2, .int .i64 tn, .bool st] := by
    have h := Blk.new W1 34 #[.slice A0 ts.length c0, .slice A1 n1 c1, .slice A2 n2 c2, .int .i64 tn, .bool st]
    rw [show W1.heap.size = w.heap.size + 1 by omega] at h
    exact h
  replace kP := kP.alloc (.cells #[.slice A0 ts.length c0, .slice A1 n1 c1, .slice A2 n2 c2, .int .i64 tn, .bool st] 34)
  have hbs := G.size
  replace G := G.alloc (by omega) (.cells #[.slice A0 ts.length c0, .slice A1 n1 c1, .slice A2 n2 c2, .int .i64 tn, .bool st] 34)
  have z2 : (W1.alloc (.cells #[.slice A0 ts.length c0, .slice A1 n1 c1, .slice A2 n2 c2, .int .i64 tn, .bool st] 34)).heap.size = W1.heap.size + 1 := by simp
  clear hbs
  generalize W1.alloc (.cells #[.slice A0 ts.length c0, .slice A1 n1 c1, .slice A2 n2 c2, .int .i64 tn, .bool st] 34) = W2 at kP kX G z2 ⊢
  have HB := hide (⟨kP, kX, G, G.size⟩ : _ ∧ _ ∧ Below w.heap.size w W2 ∧ w.heap.size ≤ W2.heap.size)
  clear kP kX G
  go_loopw [5] (fun i wr => ∃ (k : Nat), k ≤ ts.length ∧ i = .int .i64 k ∧ allFrom (fitB a b c d e ts tn) 0 ts = allFrom (fitB a b c d e ts tn) k (ts.drop k) ∧ Below W2.heap.size W2 wr) (fun i _ => ts.length - (intOf i).toNat)
  case atStart => exact ⟨0, Nat.zero_le _, rfl, rfl, Below.refl _ _⟩
  case round =>
    rename World => V
    obtain ⟨k, hk, rfl, hm, G⟩ := hrel
    have Hm := hide hm
    clear hm
    have kP := HB.out.1.below G HB.out.1.lt
    have kX := HB.out.2.1.below G HB.out.2.1.lt
    have z0 := G.size
    by_cases hlt : k < ts.length
    · obtain ⟨b', off, s, l, o, wt, on, v, t, rfl, hd, ht, hb', y0, y1, y2, y3, y4, y5, y6⟩ := ((h0'.out.below HB.out.2.2.1).below G).ts_at hlt
      have Hd := hide (⟨hd, ht⟩ : _ ∧ _)
      clear hd ht
      obtain ⟨tP, qP0, qP1, qP2, qP3, qP4⟩ := kP.q5
      obtain ⟨tX, qX0, qX1, qX2, qX3, qX4⟩ := kX.q5
      go_wp2_with fail
      clear tP qP0 qP1 qP2 qP3 qP4 tX qX0 qX1 qX2 qX3 qX4
      have kT := Blk.new V 46 #[.int .i64 s, .int .i64 l, .int .i64 o, .int .i64 wt, .int .i64 on, .int .i64 v, .int .i64 t]
      replace kP := kP.alloc (.cells #[.int .i64 s, .int .i64 l, .int .i64 o, .int .i64 wt, .int .i64 on, .int .i64 v, .int .i64 t] 46)
      replace kX := kX.alloc (.cells #[.int .i64 s, .int .i64 l, .int .i64 o, .int .i64 wt, .int .i64 on, .int .i64 v, .int .i64 t] 46)
      have hbs := G.size
      replace G := G.alloc (by omega) (.cells #[.int .i64 s, .int .i64 l, .int .i64 o, .int .i64 wt, .int .i64 on, .int .i64 v, .int .i64 t] 46)
      have z4 : (V.alloc (.cells #[.int .i64 s, .int .i64 l, .int .i64 o, .int .i64 wt, .int .i64 on, .int .i64 v, .int .i64 t] 46)).heap.size = V.heap.size + 1 := by simp
      clear hbs
      generalize V.alloc (.cells #[.int .i64 s, .int .i64 l, .int .i64 o, .int .i64 wt, .int .i64 on, .int .i64 v, .int .i64 t] 46) = W4 at kP kX kT G z4 ⊢
      have y : Hid (taskB a b c d e s l o wt on v t = taskB a b c d e s l o wt on v t) := hide rfl
      clear y y0 y1 y2 y3 y4 y5 y6
      go_call (sTaskOk_any a b c d e s l o wt on v t _) as r W5 ⟨rfl, g1⟩
      have hbs := G.size
      replace kP := kP.below g1 kP.lt
      replace kX := kX.below g1 kX.lt
      replace kT := kT.below g1 kT.lt
      replace G := G.trans (g1.mono (by omega))
      have z5 := g1.size
      clear g1 hbs
      generalize hx0 : taskB a b c d e s l o wt on v t = x0
      have e0 := hide hx0
      clear hx0
      cases x0
      · obtain ⟨tP, qP0, qP1, qP2, qP3, qP4⟩ := kP.q5
        obtain ⟨tX, qX0, qX1, qX2, qX3, qX4⟩ := kX.q5
        obtain ⟨tT, qT0, qT1, qT2, qT3, qT4, qT5, qT6⟩ := kT.q7
        go_wp2_with fail
        go_ret
        refine ⟨ret_bool ?_, HB.out.2.2.1.trans (G.mono HB.out.2.2.2)⟩
        rw [Hm.out, Hd.out.1]; simp [allFrom, fitB, e0.out]
      by_cases h1 : tn ≤ t
      · have h2 : decide (tn ≤ t) = true := by simpa using h1
        have hh : Hid (¬ (t < tn)) := hide (by omega)
        obtain ⟨tP, qP0, qP1, qP2, qP3, qP4⟩ := kP.q5
        obtain ⟨tX, qX0, qX1, qX2, qX3, qX4⟩ := kX.q5
        obtain ⟨tT, qT0, qT1, qT2, qT3, qT4, qT5, qT6⟩ := kT.q7
        go_wp2_with fail
        go_ret
        refine ⟨ret_bool ?_, HB.out.2.2.1.trans (G.mono HB.out.2.2.2)⟩
        have hh1 := hh.out
        have hh2 : ¬ (t < tn) := by omega
        rw [Hm.out, Hd.out.1]; simp [allFrom, fitB, hh2]
      have h1' : decide (tn ≤ t) = false := by simpa using h1
      have hh1 : Hid (t < tn) := hide (by omega)
      by_cases hw : waitsOk ts.length k wt on = true
      · have hw' := hide hw
        by_cases h2 : wt = 1
        · have h3 : on < (ts.length : Int) ∧ on ≠ (k : Int) := by simpa [waitsOk, h2] using hw
          have h2b : (wt == 1) = true := by simp [h2]
          have h4 : decide ((ts.length : Int) ≤ on) = false := by simp; omega
          have h5 : (on == (k : Int)) = false := by simp; omega
          have h6 := h3.1
          have h7 := h3.2
          clear h3 hw
          obtain ⟨tP, qP0, qP1, qP2, qP3, qP4⟩ := kP.q5
          obtain ⟨tX, qX0, qX1, qX2, qX3, qX4⟩ := kX.q5
          obtain ⟨tT, qT0, qT1, qT2, qT3, qT4, qT5, qT6⟩ := kT.q7
          go_wp2_with fail
          clear tP qP0 qP1 qP2 qP3 qP4 tX qX0 qX1 qX2 qX3 qX4 tT qT0 qT1 qT2 qT3 qT4 qT5 qT6
          have HC := hide (⟨kP, kX, kT, G, G.size⟩ : _ ∧ _ ∧ _ ∧ Below W2.heap.size W2 W5 ∧ W2.heap.size ≤ W5.heap.size)
          clear kP kX kT G
          go_loopw [7] (fun j wr => ∃ (q : Nat), q ≤ k ∧ j = .int .i64 q ∧ soloTo ts q s o = true ∧ Below W5.heap.size W5 wr) (fun j _ => k - (intOf j).toNat)
          case atStart => exact ⟨0, Nat.zero_le _, rfl, by simp [soloTo], Below.refl _ _⟩
          case round =>
            obtain ⟨q, hq, rfl, hso, G⟩ := hrel
            have Hs := hide hso
            clear hso
            have kX := HC.out.2.1.below G HC.out.2.1.lt
            have kT := HC.out.2.2.1.below G HC.out.2.2.1.lt
            have zz := G.size
            by_cases hql : q < k
            · obtain ⟨b2, off2, s2, l2, o2, wt2, on2, v2, t2, hA, _, ht2, hb2, y0, y1, y2, y3, y4, y5, y6⟩ := ((((h0'.out.below HB.out.2.2.1).below (HC.out.2.2.2.1.trans (Below.refl _ _)))).below G).ts_at (show q < ts.length by omega)
              injection hA with hA
              injection hA with hA1 hA2
              subst hA1 hA2
              have Ht2 := hide ht2
              clear ht2
              have cy0 := KeptW.cell (W0 := wr) (b := b') (o := off + q * 7) (u := .int .i64 s2) y0
              have cy2 := KeptW.cell (W0 := wr) (b := b') (o := off + q * 7 + 2) (u := .int .i64 o2) y2
              clear y0 y1 y2 y3 y4 y5 y6
              go_wp2_with fail
              have cX0 := KeptW.cell (W0 := wr) (b := w.heap.size + 1) (o := 0) (u := .slice (some ⟨b', off, none⟩) ts.length c0) (kX.cell 0)
              have cX1 := KeptW.cell (W0 := wr) (b := w.heap.size + 1) (o := 1) (u := .slice A1 n1 c1) (kX.cell 1)
              have cX2 := KeptW.cell (W0 := wr) (b := w.heap.size + 1) (o := 2) (u := .slice A2 n2 c2) (kX.cell 2)
              have cX3 := KeptW.cell (W0 := wr) (b := w.heap.size + 1) (o := 3) (u := .int .i64 tn) (kX.cell 3)
              have cX4 := KeptW.cell (W0 := wr) (b := w.heap.size + 1) (o := 4) (u := .bool st) (kX.cell 4)
              have cT0 := KeptW.cell (W0 := wr) (b := V.heap.size) (o := 0) (u := .int .i64 s) (kT.cell 0)
              have cT1 := KeptW.cell (W0 := wr) (b := V.heap.size) (o := 1) (u := .int .i64 l) (kT.cell 1)
              have cT2 := KeptW.cell (W0 := wr) (b := V.heap.size) (o := 2) (u := .int .i64 o) (kT.cell 2)
              have cT3 := KeptW.cell (W0 := wr) (b := V.heap.size) (o := 3) (u := .int .i64 wt) (kT.cell 3)
              have cT4 := KeptW.cell (W0 := wr) (b := V.heap.size) (o := 4) (u := .int .i64 on) (kT.cell 4)
              have cT5 := KeptW.cell (W0 := wr) (b := V.heap.size) (o := 5) (u := .int .i64 v) (kT.cell 5)
              have cT6 := KeptW.cell (W0 := wr) (b := V.heap.size) (o := 6) (u := .int .i64 t) (kT.cell 6)
              have HG := hide (⟨G, G.size⟩ : Below W5.heap.size W5 wr ∧ W5.heap.size ≤ wr.heap.size)
              clear kX kT
              clear G 
              have hx0 := KeptW.mk'_w (Below.refl wr.heap.size wr)
              generalize KeptW.mk' (Below.refl wr.heap.size wr) = x at hx0
              rw [← hx0]
              clear hx0
              by_cases g1 : s = 2
              · by_cases g2 : s2 = 2
                · by_cases g3 : o2 = o
                  · have gg := hide (⟨g1, g2, g3⟩ : _ ∧ _ ∧ _)
                    have g1b : (s == 2) = true := by simp [g1]
                    have g2b : (s2 == 2) = true := by simp [g2]
                    have g3b : (o2 == o) = true := by simp [g3]
                    refine region_kept (by kernel_rfl) (by kernel_rfl) ?_
                    repeat (go_big_quiet_step (fail))
                    refine wpQuiet_nil ?_
                    rintro _ ⟨x, rfl⟩
                    go_wp2
                    go_ret
                    refine ⟨ret_bool ?_, HB.out.2.2.1.trans ((HC.out.2.2.2.1.trans ((HG.out.1.trans (x.below.mono HG.out.2)).mono HC.out.2.2.2.2)).mono HB.out.2.2.2)⟩
                    have hsf := solo_false ts q k hql _ s o Ht2.out gg.out.1 gg.out.2.1 gg.out.2.2
                    rw [Hm.out, Hd.out.1]; simp [allFrom, fitB, hsf]
                  · have gg := hide g3
                    have g1b : (s == 2) = true := by simp [g1]
                    have g2b : (s2 == 2) = true := by simp [g2]
                    have g3b : (o2 == o) = false := by simpa using g3
                    refine region_kept (by kernel_rfl) (by kernel_rfl) ?_
                    repeat (go_big_quiet_step (fail))
                    refine wpQuiet_nil ?_
                    rintro _ ⟨x, rfl⟩
                    go_wp2
                    go_roundw
                    case rel => exact ⟨q + 1, by omega, by go_num, by rw [solo_step ts q _ s o Ht2.out, Hs.out]; simp [gg.out], HG.out.1.trans (x.below.mono HG.out.2)⟩
                    case measure => simp [intOf]; omega
                · have gg := hide g2
                  have g1b : (s == 2) = true := by simp [g1]
                  have g2b : (s2 == 2) = false := by simpa using g2
                  refine region_kept (by kernel_rfl) (by kernel_rfl) ?_
                  repeat (go_big_quiet_step (fail))
                  refine wpQuiet_nil ?_
                  rintro _ ⟨x, rfl⟩
                  go_wp2
                  go_roundw
                  case rel => exact ⟨q + 1, by omega, by go_num, by rw [solo_step ts q _ s o Ht2.out, Hs.out]; simp [gg.out], HG.out.1.trans (x.below.mono HG.out.2)⟩
                  case measure => simp [intOf]; omega
              · have gg := hide g1
                have g1b : (s == 2) = false := by simpa using g1
                refine region_kept (by kernel_rfl) (by kernel_rfl) ?_
                repeat (go_big_quiet_step (fail))
                refine wpQuiet_nil ?_
                rintro _ ⟨x, rfl⟩
                go_wp2
                go_roundw
                case rel => exact ⟨q + 1, by omega, by go_num, by rw [solo_step ts q _ s o Ht2.out, Hs.out]; simp [gg.out], HG.out.1.trans (x.below.mono HG.out.2)⟩
                case measure => simp [intOf]; omega
            · obtain rfl : q = k := by omega
              go_wp2
              go_roundw
              case rel => exact ⟨q + 1, by omega, by go_num, by rw [Hm.out, Hd.out.1]; simp [allFrom, fitB, e0.out, hh1.out, Hs.out, hw'.out], HC.out.2.2.2.1.trans (G.mono HC.out.2.2.2.2)⟩
              case measure => simp [intOf]; omega
        · have h2b : (wt == 1) = false := by simpa using h2
          clear hw
          obtain ⟨tP, qP0, qP1, qP2, qP3, qP4⟩ := kP.q5
          obtain ⟨tX, qX0, qX1, qX2, qX3, qX4⟩ := kX.q5
          obtain ⟨tT, qT0, qT1, qT2, qT3, qT4, qT5, qT6⟩ := kT.q7
          go_wp2_with fail
          clear tP qP0 qP1 qP2 qP3 qP4 tX qX0 qX1 qX2 qX3 qX4 tT qT0 qT1 qT2 qT3 qT4 qT5 qT6
          have HC := hide (⟨kP, kX, kT, G, G.size⟩ : _ ∧ _ ∧ _ ∧ Below W2.heap.size W2 W5 ∧ W2.heap.size ≤ W5.heap.size)
          clear kP kX kT G
          go_loopw [7] (fun j wr => ∃ (q : Nat), q ≤ k ∧ j = .int .i64 q ∧ soloTo ts q s o = true ∧ Below W5.heap.size W5 wr) (fun j _ => k - (intOf j).toNat)
          case atStart => exact ⟨0, Nat.zero_le _, rfl, by simp [soloTo], Below.refl _ _⟩
          case round =>
            obtain ⟨q, hq, rfl, hso, G⟩ := hrel
            have Hs := hide hso
            clear hso
            have kX := HC.out.2.1.below G HC.out.2.1.lt
            have kT := HC.out.2.2.1.below G HC.out.2.2.1.lt
            have zz := G.size
            by_cases hql : q < k
            · obtain ⟨b2, off2, s2, l2, o2, wt2, on2, v2, t2, hA, _, ht2, hb2, y0, y1, y2, y3, y4, y5, y6⟩ := ((((h0'.out.below HB.out.2.2.1).below (HC.out.2.2.2.1.trans (Below.refl _ _)))).below G).ts_at (show q < ts.length by omega)
              injection hA with hA
              injection hA with hA1 hA2
              subst hA1 hA2
              have Ht2 := hide ht2
              clear ht2
              have cy0 := KeptW.cell (W0 := wr) (b := b') (o := off + q * 7) (u := .int .i64 s2) y0
              have cy2 := KeptW.cell (W0 := wr) (b := b') (o := off + q * 7 + 2) (u := .int .i64 o2) y2
              clear y0 y1 y2 y3 y4 y5 y6
              go_wp2_with fail
              have cX0 := KeptW.cell (W0 := wr) (b := w.heap.size + 1) (o := 0) (u := .slice (some ⟨b', off, none⟩) ts.length c0) (kX.cell 0)
              have cX1 := KeptW.cell (W0 := wr) (b := w.heap.size + 1) (o := 1) (u := .slice A1 n1 c1) (kX.cell 1)
              have cX2 := KeptW.cell (W0 := wr) (b := w.heap.size + 1) (o := 2) (u := .slice A2 n2 c2) (kX.cell 2)
              have cX3 := KeptW.cell (W0 := wr) (b := w.heap.size + 1) (o := 3) (u := .int .i64 tn) (kX.cell 3)
              have cX4 := KeptW.cell (W0 := wr) (b := w.heap.size + 1) (o := 4) (u := .bool st) (kX.cell 4)
              have cT0 := KeptW.cell (W0 := wr) (b := V.heap.size) (o := 0) (u := .int .i64 s) (kT.cell 0)
              have cT1 := KeptW.cell (W0 := wr) (b := V.heap.size) (o := 1) (u := .int .i64 l) (kT.cell 1)
              have cT2 := KeptW.cell (W0 := wr) (b := V.heap.size) (o := 2) (u := .int .i64 o) (kT.cell 2)
              have cT3 := KeptW.cell (W0 := wr) (b := V.heap.size) (o := 3) (u := .int .i64 wt) (kT.cell 3)
              have cT4 := KeptW.cell (W0 := wr) (b := V.heap.size) (o := 4) (u := .int .i64 on) (kT.cell 4)
              have cT5 := KeptW.cell (W0 := wr) (b := V.heap.size) (o := 5) (u := .int .i64 v) (kT.cell 5)
              have cT6 := KeptW.cell (W0 := wr) (b := V.heap.size) (o := 6) (u := .int .i64 t) (kT.cell 6)
              have HG := hide (⟨G, G.size⟩ : Below W5.heap.size W5 wr ∧ W5.heap.size ≤ wr.heap.size)
              clear kX kT
              clear G 
              have hx0 := KeptW.mk'_w (Below.refl wr.heap.size wr)
              generalize KeptW.mk' (Below.refl wr.heap.size wr) = x at hx0
              rw [← hx0]
              clear hx0
              by_cases g1 : s = 2
              · by_cases g2 : s2 = 2
                · by_cases g3 : o2 = o
                  · have gg := hide (⟨g1, g2, g3⟩ : _ ∧ _ ∧ _)
                    have g1b : (s == 2) = true := by simp [g1]
                    have g2b : (s2 == 2) = true := by simp [g2]
                    have g3b : (o2 == o) = true := by simp [g3]
                    refine region_kept (by kernel_rfl) (by kernel_rfl) ?_
                    repeat (go_big_quiet_step (fail))
                    refine wpQuiet_nil ?_
                    rintro _ ⟨x, rfl⟩
                    go_wp2
                    go_ret
                    refine ⟨ret_bool ?_, HB.out.2.2.1.trans ((HC.out.2.2.2.1.trans ((HG.out.1.trans (x.below.mono HG.out.2)).mono HC.out.2.2.2.2)).mono HB.out.2.2.2)⟩
                    have hsf := solo_false ts q k hql _ s o Ht2.out gg.out.1 gg.out.2.1 gg.out.2.2
                    rw [Hm.out, Hd.out.1]; simp [allFrom, fitB, hsf]
                  · have gg := hide g3
                    have g1b : (s == 2) = true := by simp [g1]
                    have g2b : (s2 == 2) = true := by simp [g2]
                    have g3b : (o2 == o) = false := by simpa using g3
                    refine region_kept (by kernel_rfl) (by kernel_rfl) ?_
                    repeat (go_big_quiet_step (fail))
                    refine wpQuiet_nil ?_
                    rintro _ ⟨x, rfl⟩
                    go_wp2
                    go_roundw
                    case rel => exact ⟨q + 1, by omega, by go_num, by rw [solo_step ts q _ s o Ht2.out, Hs.out]; simp [gg.out], HG.out.1.trans (x.below.mono HG.out.2)⟩
                    case measure => simp [intOf]; omega
                · have gg := hide g2
                  have g1b : (s == 2) = true := by simp [g1]
                  have g2b : (s2 == 2) = false := by simpa using g2
                  refine region_kept (by kernel_rfl) (by kernel_rfl) ?_
                  repeat (go_big_quiet_step (fail))
                  refine wpQuiet_nil ?_
                  rintro _ ⟨x, rfl⟩
                  go_wp2
                  go_roundw
                  case rel => exact ⟨q + 1, by omega, by go_num, by rw [solo_step ts q _ s o Ht2.out, Hs.out]; simp [gg.out], HG.out.1.trans (x.below.mono HG.out.2)⟩
                  case measure => simp [intOf]; omega
              · have gg := hide g1
                have g1b : (s == 2) = false := by simpa using g1
                refine region_kept (by kernel_rfl) (by kernel_rfl) ?_
                repeat (go_big_quiet_step (fail))
                refine wpQuiet_nil ?_
                rintro _ ⟨x, rfl⟩
                go_wp2
                go_roundw
                case rel => exact ⟨q + 1, by omega, by go_num, by rw [solo_step ts q _ s o Ht2.out, Hs.out]; simp [gg.out], HG.out.1.trans (x.below.mono HG.out.2)⟩
                case measure => simp [intOf]; omega
            · obtain rfl : q = k := by omega
              go_wp2
              go_roundw
              case rel => exact ⟨q + 1, by omega, by go_num, by rw [Hm.out, Hd.out.1]; simp [allFrom, fitB, e0.out, hh1.out, Hs.out, hw'.out], HC.out.2.2.2.1.trans (G.mono HC.out.2.2.2.2)⟩
              case measure => simp [intOf]; omega
      · have hw2 : waitsOk ts.length k wt on = false := by simpa using hw
        have hw' := hide hw2
        have h2 : wt = 1 := Decidable.byContradiction fun h => hw (by simp [waitsOk, h])
        have h2b : (wt == 1) = true := by simp [h2]
        by_cases h3 : (ts.length : Int) ≤ on
        · have h4 : decide ((ts.length : Int) ≤ on) = true := by simpa using h3
          clear hw hw2
          obtain ⟨tP, qP0, qP1, qP2, qP3, qP4⟩ := kP.q5
          obtain ⟨tX, qX0, qX1, qX2, qX3, qX4⟩ := kX.q5
          obtain ⟨tT, qT0, qT1, qT2, qT3, qT4, qT5, qT6⟩ := kT.q7
          go_wp2_with fail
          go_ret
          refine ⟨ret_bool ?_, HB.out.2.2.1.trans (G.mono HB.out.2.2.2)⟩
          rw [Hm.out, Hd.out.1]; simp [allFrom, fitB, hw'.out]
        · have h5 : on = (k : Int) := Decidable.byContradiction fun h => hw (by simp [waitsOk, h]; omega)
          have h4 : decide ((ts.length : Int) ≤ on) = false := by simpa using h3
          have h5b : (on == (k : Int)) = true := by simp [h5]
          clear hw hw2
          obtain ⟨tP, qP0, qP1, qP2, qP3, qP4⟩ := kP.q5
          obtain ⟨tX, qX0, qX1, qX2, qX3, qX4⟩ := kX.q5
          obtain ⟨tT, qT0, qT1, qT2, qT3, qT4, qT5, qT6⟩ := kT.q7
          go_wp2_with fail
          go_ret
          refine ⟨ret_bool ?_, HB.out.2.2.1.trans (G.mono HB.out.2.2.2)⟩
          rw [Hm.out, Hd.out.1]; simp [allFrom, fitB, hw'.out]
    · obtain rfl : k = ts.length := by omega
      obtain ⟨tX, qX0, qX1, qX2, qX3, qX4⟩ := kX.q5
      go_wp2
      go_ret
      refine ⟨ret_bool ?_, HB.out.2.2.1.trans (G.mono HB.out.2.2.2)⟩
      rw [Hm.out]; simp [allFrom]

set_option maxRecDepth 100000 in
set_option maxHeartbeats 16000000 in
theorem sPoolOk_any (a b c d e : Int) (ts : List T7) (ks : List Int) (fs : List F2) (A0 A1 A2 : Option Addr) (c0 c1 c2 : Nat) (tn : Int) (st : Bool) (w : World) (ht : ts.length ≤ 1048576) (hk : ks.length ≤ 1048576) (hf : fs.length ≤ 1048576) (h : InPool w ts ks fs A0 A1 A2) :
    Calls Try.prog 21 #[.agg #[.int .i64 a, .int .i64 b, .int .i64 c, .int .i64 d, .int .i64 e], .agg #[.slice A0 ts.length c0, .slice A1 ks.length c1, .slice A2 fs.length c2, .int .i64 tn, .bool st]] w fun r w' => r = .returned (.bool (poolB a b c d e ts ks fs tn)) ∧ Below w.heap.size w w' := by
  have H := hide h
  clear h
  by_cases h0 : planB a b c d e = true
  rotate_left
  · have h0' : planB a b c d e = false := by simpa using h0
    have e0 : poolB a b c d e ts ks fs tn = false := by simp [poolB, h0']
    rw [e0]
    go_enter Try.func21, Try.ntmps21
    go_wp2_with fail
    have G := Below.refl w.heap.size w
    have kP := Blk.new w 28 #[.int .i64 a, .int .i64 b, .int .i64 c, .int .i64 d, .int .i64 e]
    have hbs := G.size
    replace G := G.alloc (by omega) (.cells #[.int .i64 a, .int .i64 b, .int .i64 c, .int .i64 d, .int .i64 e] 28)
    have z1 : (w.alloc (.cells #[.int .i64 a, .int .i64 b, .int .i64 c, .int .i64 d, .int .i64 e] 28)).heap.size = w.heap.size + 1 := by simp
    clear hbs
    generalize w.alloc (.cells #[.int .i64 a, .int .i64 b, .int .i64 c, .int .i64 d, .int .i64 e] 28) = W1 at kP G z1 ⊢
    have kX : Blk (W1.alloc (.cells #[.slice A0 ts.length c0, .slice A1 ks.length c1, .slice A2 fs.length c2, .int .i64 tn, .bool st] 34)) (w.heap.size + 1) 34 #[.slice A0 ts.length c0, .slice A1 ks.length c1, .slice A2 fs.length c2, .int .i64 tn, .bool st] := by
      have h := Blk.new W1 34 #[.slice A0 ts.length c0, .slice A1 ks.length c1, .slice A2 fs.length c2, .int .i64 tn, .bool st]
      rw [show W1.heap.size = w.heap.size + 1 by omega] at h
      exact h
    replace kP := kP.alloc (.cells #[.slice A0 ts.length c0, .slice A1 ks.length c1, .slice A2 fs.length c2, .int .i64 tn, .bool st] 34)
    have hbs := G.size
    replace G := G.alloc (by omega) (.cells #[.slice A0 ts.length c0, .slice A1 ks.length c1, .slice A2 fs.length c2, .int .i64 tn, .bool st] 34)
    have z2 : (W1.alloc (.cells #[.slice A0 ts.length c0, .slice A1 ks.length c1, .slice A2 fs.length c2, .int .i64 tn, .bool st] 34)).heap.size = W1.heap.size + 1 := by simp
    clear hbs
    generalize W1.alloc (.cells #[.slice A0 ts.length c0, .slice A1 ks.length c1, .slice A2 fs.length c2, .int .i64 tn, .bool st] 34) = W2 at kP kX G z2 ⊢
    go_call (sPlanOk_any a b c d e _) as r W3 ⟨rfl, g1⟩
    have hbs := G.size
    replace kP := kP.below g1 kP.lt
    replace kX := kX.below g1 kX.lt
    replace G := G.trans (g1.mono (by omega))
    have z3 := g1.size
    clear g1 hbs
    rw [h0']
    obtain ⟨tP, qP0, qP1, qP2, qP3, qP4⟩ := kP.q5
    obtain ⟨tX, qX0, qX1, qX2, qX3, qX4⟩ := kX.q5
    go_wp2_with fail
    go_ret
    exact ⟨rfl, G⟩
  by_cases h1 : (ts.length : Int) ≤ b
  rotate_left
  · have e0 : poolB a b c d e ts ks fs tn = false := by simp [poolB, h1]
    rw [e0]
    have h1b : decide (b < (ts.length : Int)) = true := by simpa using h1
    go_enter Try.func21, Try.ntmps21
    go_wp2_with fail
    have G := Below.refl w.heap.size w
    have kP := Blk.new w 28 #[.int .i64 a, .int .i64 b, .int .i64 c, .int .i64 d, .int .i64 e]
    have hbs := G.size
    replace G := G.alloc (by omega) (.cells #[.int .i64 a, .int .i64 b, .int .i64 c, .int .i64 d, .int .i64 e] 28)
    have z1 : (w.alloc (.cells #[.int .i64 a, .int .i64 b, .int .i64 c, .int .i64 d, .int .i64 e] 28)).heap.size = w.heap.size + 1 := by simp
    clear hbs
    generalize w.alloc (.cells #[.int .i64 a, .int .i64 b, .int .i64 c, .int .i64 d, .int .i64 e] 28) = W1 at kP G z1 ⊢
    have kX : Blk (W1.alloc (.cells #[.slice A0 ts.length c0, .slice A1 ks.length c1, .slice A2 fs.length c2, .int .i64 tn, .bool st] 34)) (w.heap.size + 1) 34 #[.slice A0 ts.length c0, .slice A1 ks.length c1, .slice A2 fs.length c2, .int .i64 tn, .bool st] := by
      have h := Blk.new W1 34 #[.slice A0 ts.length c0, .slice A1 ks.length c1, .slice A2 fs.length c2, .int .i64 tn, .bool st]
      rw [show W1.heap.size = w.heap.size + 1 by omega] at h
      exact h
    replace kP := kP.alloc (.cells #[.slice A0 ts.length c0, .slice A1 ks.length c1, .slice A2 fs.length c2, .int .i64 tn, .bool st] 34)
    have hbs := G.size
    replace G := G.alloc (by omega) (.cells #[.slice A0 ts.length c0, .slice A1 ks.length c1, .slice A2 fs.length c2, .int .i64 tn, .bool st] 34)
    have z2 : (W1.alloc (.cells #[.slice A0 ts.length c0, .slice A1 ks.length c1, .slice A2 fs.length c2, .int .i64 tn, .bool st] 34)).heap.size = W1.heap.size + 1 := by simp
    clear hbs
    generalize W1.alloc (.cells #[.slice A0 ts.length c0, .slice A1 ks.length c1, .slice A2 fs.length c2, .int .i64 tn, .bool st] 34) = W2 at kP kX G z2 ⊢
    go_call (sPlanOk_any a b c d e _) as r W3 ⟨rfl, g1⟩
    have hbs := G.size
    replace kP := kP.below g1 kP.lt
    replace kX := kX.below g1 kX.lt
    replace G := G.trans (g1.mono (by omega))
    have z3 := g1.size
    clear g1 hbs
    rw [h0]
    obtain ⟨tP, qP0, qP1, qP2, qP3, qP4⟩ := kP.q5
    obtain ⟨tX, qX0, qX1, qX2, qX3, qX4⟩ := kX.q5
    go_wp2_with fail
    go_ret
    exact ⟨rfl, G⟩
  have h1b : decide (b < (ts.length : Int)) = false := by simpa using h1
  by_cases h2 : (ks.length : Int) = d
  rotate_left
  · have e0 : poolB a b c d e ts ks fs tn = false := by simp [poolB, h2]
    rw [e0]
    have h2b : ((ks.length : Int) != d) = true := by simpa using h2
    go_enter Try.func21, Try.ntmps21
    go_wp2_with fail
    have G := Below.refl w.heap.size w
    have kP := Blk.new w 28 #[.int .i64 a, .int .i64 b, .int .i64 c, .int .i64 d, .int .i64 e]
    have hbs := G.size
    replace G := G.alloc (by omega) (.cells #[.int .i64 a, .int .i64 b, .int .i64 c, .int .i64 d, .int .i64 e] 28)
    have z1 : (w.alloc (.cells #[.int .i64 a, .int .i64 b, .int .i64 c, .int .i64 d, .int .i64 e] 28)).heap.size = w.heap.size + 1 := by simp
    clear hbs
    generalize w.alloc (.cells #[.int .i64 a, .int .i64 b, .int .i64 c, .int .i64 d, .int .i64 e] 28) = W1 at kP G z1 ⊢
    have kX : Blk (W1.alloc (.cells #[.slice A0 ts.length c0, .slice A1 ks.length c1, .slice A2 fs.length c2, .int .i64 tn, .bool st] 34)) (w.heap.size + 1) 34 #[.slice A0 ts.length c0, .slice A1 ks.length c1, .slice A2 fs.length c2, .int .i64 tn, .bool st] := by
      have h := Blk.new W1 34 #[.slice A0 ts.length c0, .slice A1 ks.length c1, .slice A2 fs.length c2, .int .i64 tn, .bool st]
      rw [show W1.heap.size = w.heap.size + 1 by omega] at h
      exact h
    replace kP := kP.alloc (.cells #[.slice A0 ts.length c0, .slice A1 ks.length c1, .slice A2 fs.length c2, .int .i64 tn, .bool st] 34)
    have hbs := G.size
    replace G := G.alloc (by omega) (.cells #[.slice A0 ts.length c0, .slice A1 ks.length c1, .slice A2 fs.length c2, .int .i64 tn, .bool st] 34)
    have z2 : (W1.alloc (.cells #[.slice A0 ts.length c0, .slice A1 ks.length c1, .slice A2 fs.length c2, .int .i64 tn, .bool st] 34)).heap.size = W1.heap.size + 1 := by simp
    clear hbs
    generalize W1.alloc (.cells #[.slice A0 ts.length c0, .slice A1 ks.length c1, .slice A2 fs.length c2, .int .i64 tn, .bool st] 34) = W2 at kP kX G z2 ⊢
    go_call (sPlanOk_any a b c d e _) as r W3 ⟨rfl, g1⟩
    have hbs := G.size
    replace kP := kP.below g1 kP.lt
    replace kX := kX.below g1 kX.lt
    replace G := G.trans (g1.mono (by omega))
    have z3 := g1.size
    clear g1 hbs
    rw [h0]
    obtain ⟨tP, qP0, qP1, qP2, qP3, qP4⟩ := kP.q5
    obtain ⟨tX, qX0, qX1, qX2, qX3, qX4⟩ := kX.q5
    go_wp2_with fail
    go_ret
    exact ⟨rfl, G⟩
  subst h2
  by_cases h3 : (fs.length : Int) = e
  rotate_left
  · have e0 : poolB a b c ks.length e ts ks fs tn = false := by simp [poolB, h3]
    rw [e0]
    have h3b : ((fs.length : Int) != e) = true := by simpa using h3
    go_enter Try.func21, Try.ntmps21
    go_wp2_with fail
    have G := Below.refl w.heap.size w
    have kP := Blk.new w 28 #[.int .i64 a, .int .i64 b, .int .i64 c, .int .i64 ks.length, .int .i64 e]
    have hbs := G.size
    replace G := G.alloc (by omega) (.cells #[.int .i64 a, .int .i64 b, .int .i64 c, .int .i64 ks.length, .int .i64 e] 28)
    have z1 : (w.alloc (.cells #[.int .i64 a, .int .i64 b, .int .i64 c, .int .i64 ks.length, .int .i64 e] 28)).heap.size = w.heap.size + 1 := by simp
    clear hbs
    generalize w.alloc (.cells #[.int .i64 a, .int .i64 b, .int .i64 c, .int .i64 ks.length, .int .i64 e] 28) = W1 at kP G z1 ⊢
    have kX : Blk (W1.alloc (.cells #[.slice A0 ts.length c0, .slice A1 ks.length c1, .slice A2 fs.length c2, .int .i64 tn, .bool st] 34)) (w.heap.size + 1) 34 #[.slice A0 ts.length c0, .slice A1 ks.length c1, .slice A2 fs.length c2, .int .i64 tn, .bool st] := by
      have h := Blk.new W1 34 #[.slice A0 ts.length c0, .slice A1 ks.length c1, .slice A2 fs.length c2, .int .i64 tn, .bool st]
      rw [show W1.heap.size = w.heap.size + 1 by omega] at h
      exact h
    replace kP := kP.alloc (.cells #[.slice A0 ts.length c0, .slice A1 ks.length c1, .slice A2 fs.length c2, .int .i64 tn, .bool st] 34)
    have hbs := G.size
    replace G := G.alloc (by omega) (.cells #[.slice A0 ts.length c0, .slice A1 ks.length c1, .slice A2 fs.length c2, .int .i64 tn, .bool st] 34)
    have z2 : (W1.alloc (.cells #[.slice A0 ts.length c0, .slice A1 ks.length c1, .slice A2 fs.length c2, .int .i64 tn, .bool st] 34)).heap.size = W1.heap.size + 1 := by simp
    clear hbs
    generalize W1.alloc (.cells #[.slice A0 ts.length c0, .slice A1 ks.length c1, .slice A2 fs.length c2, .int .i64 tn, .bool st] 34) = W2 at kP kX G z2 ⊢
    go_call (sPlanOk_any a b c ks.length e _) as r W3 ⟨rfl, g1⟩
    have hbs := G.size
    replace kP := kP.below g1 kP.lt
    replace kX := kX.below g1 kX.lt
    replace G := G.trans (g1.mono (by omega))
    have z3 := g1.size
    clear g1 hbs
    rw [h0]
    obtain ⟨tP, qP0, qP1, qP2, qP3, qP4⟩ := kP.q5
    obtain ⟨tX, qX0, qX1, qX2, qX3, qX4⟩ := kX.q5
    go_wp2_with fail
    go_ret
    exact ⟨rfl, G⟩
  subst h3
  have E0 : Hid (poolB a b c ks.length fs.length ts ks fs tn = (btw tn 0 1000000 && (tasksB a b c ks.length fs.length ts tn && (ks.all tokB && fs.all futB)))) := hide (by simp [poolB, h0, h1])
  go_enter Try.func21, Try.ntmps21
  go_wp2_with fail
  have G := Below.refl w.heap.size w
  have kP := Blk.new w 28 #[.int .i64 a, .int .i64 b, .int .i64 c, .int .i64 ks.length, .int .i64 fs.length]
  have hbs := G.size
  replace G := G.alloc (by omega) (.cells #[.int .i64 a, .int .i64 b, .int .i64 c, .int .i64 ks.length, .int .i64 fs.length] 28)
  have z1 : (w.alloc (.cells #[.int .i64 a, .int .i64 b, .int .i64 c, .int .i64 ks.length, .int .i64 fs.length] 28)).heap.size = w.heap.size + 1 := by simp
  clear hbs
  generalize w.alloc (.cells #[.int .i64 a, .int .i64 b, .int .i64 c, .int .i64 ks.length, .int .i64 fs.length] 28) = W1 at kP G z1 ⊢
  have kX : Blk (W1.alloc (.cells #[.slice A0 ts.length c0, .slice A1 ks.length c1, .slice A2 fs.length c2, .int .i64 tn, .bool st] 34)) (w.heap.size + 1) 34 #[.slice A0 ts.length c0, .slice A1 ks.length c1, .slice A2 fs.length c2, .int .i64 tn, .bool st] := by
    have h := Blk.new W1 34 #[.slice A0 ts.length c0, .slice A1 ks.length c1, .slice A2 fs.length c2, .int .i64 tn, .bool st]
    rw [show W1.heap.size = w.heap.size + 1 by omega] at h
    exact h
  replace kP := kP.alloc (.cells #[.slice A0 ts.length c0, .slice A1 ks.length c1, .slice A2 fs.length c2, .int .i64 tn, .bool st] 34)
  have hbs := G.size
  replace G := G.alloc (by omega) (.cells #[.slice A0 ts.length c0, .slice A1 ks.length c1, .slice A2 fs.length c2, .int .i64 tn, .bool st] 34)
  have z2 : (W1.alloc (.cells #[.slice A0 ts.length c0, .slice A1 ks.length c1, .slice A2 fs.length c2, .int .i64 tn, .bool st] 34)).heap.size = W1.heap.size + 1 := by simp
  clear hbs
  generalize W1.alloc (.cells #[.slice A0 ts.length c0, .slice A1 ks.length c1, .slice A2 fs.length c2, .int .i64 tn, .bool st] 34) = W2 at kP kX G z2 ⊢
  go_call (sPlanOk_any a b c ks.length fs.length _) as r W3 ⟨rfl, g1⟩
  have hbs := G.size
  replace kP := kP.below g1 kP.lt
  replace kX := kX.below g1 kX.lt
  replace G := G.trans (g1.mono (by omega))
  have z3 := g1.size
  clear g1 hbs
  rw [h0]
  obtain ⟨tP, qP0, qP1, qP2, qP3, qP4⟩ := kP.q5
  obtain ⟨tX, qX0, qX1, qX2, qX3, qX4⟩ := kX.q5
  go_wp2_with fail
  go_call (l1In_any tn 0 1000000 _) as r W4 ⟨rfl, rfl⟩
  generalize hx1 : btw tn 0 1000000 = x1 at E0
  have e1 := hide hx1
  clear hx1
  cases x1
  · go_wp2_with fail
    go_ret
    exact ⟨ret_bool (by rw [E0.out]; simp), G⟩
  go_wp2_with fail
  clear tP qP0 qP1 qP2 qP3 qP4 tX qX0 qX1 qX2 qX3 qX4
  have HB := hide (⟨kP, kX, G, G.size⟩ : _ ∧ _ ∧ Below w.heap.size w W3 ∧ w.heap.size ≤ W3.heap.size)
  clear kP kX G
  go_loopw [5] (fun i wr => ∃ (k : Nat), k ≤ ks.length ∧ i = .int .i64 k ∧ ks.all tokB = (ks.drop k).all tokB ∧ Below W3.heap.size W3 wr) (fun i _ => ks.length - (intOf i).toNat)
  case atStart => exact ⟨0, Nat.zero_le _, rfl, rfl, Below.refl _ _⟩
  case round =>
    rename World => V
    obtain ⟨k, hk2, rfl, hm, G⟩ := hrel
    have Hm := hide hm
    clear hm
    have kX := HB.out.2.1.below G HB.out.2.1.lt
    have z0 := G.size
    by_cases hlt : k < ks.length
    · obtain ⟨b', off, v, rfl, hd, _, hb', y0⟩ := ((H.out.2.1.below HB.out.2.2.1).below G).ks_at hlt
      have Hd := hide hd
      clear hd
      obtain ⟨tX, qX0, qX1, qX2, qX3, qX4⟩ := kX.q5
      go_wp2_with fail
      go_call (l1In_any v 0 100 _) as r w2 ⟨rfl, rfl⟩
      generalize hx : btw v 0 100 = x2
      have Hx := hide hx
      clear hx
      cases x2
      · go_wp2
        go_ret
        refine ⟨ret_bool ?_, HB.out.2.2.1.trans (G.mono HB.out.2.2.2)⟩
        have hf0 : ks.all tokB = false := by rw [Hm.out, Hd.out]; simp [tokB, Hx.out]
        rw [E0.out, hf0]; simp
      · go_wp2
        go_roundw
        case rel => exact ⟨k + 1, by omega, by go_num, by rw [Hm.out, Hd.out]; simp [tokB, Hx.out], G⟩
        case measure => simp [intOf]; omega
    · obtain rfl : k = ks.length := by omega
      have Hk : Hid (ks.all tokB = true) := hide (by rw [Hm.out]; simp)
      clear Hm
      obtain ⟨tX, qX0, qX1, qX2, qX3, qX4⟩ := kX.q5
      go_wp2_with fail
      clear tX qX0 qX1 qX2 qX3 qX4
      clear kX
      have HD := hide (⟨G, G.size⟩ : Below W3.heap.size W3 V ∧ W3.heap.size ≤ V.heap.size)
      clear G
      go_loopw [6] (fun i wr => ∃ (k : Nat), k ≤ fs.length ∧ i = .int .i64 k ∧ fs.all futB = (fs.drop k).all futB ∧ Below V.heap.size V wr) (fun i _ => fs.length - (intOf i).toNat)
      case atStart => exact ⟨0, Nat.zero_le _, rfl, rfl, Below.refl _ _⟩
      case round =>
        rename World => U
        obtain ⟨k, hk3, rfl, hm, G0⟩ := hrel
        have G := HD.out.1.trans (G0.mono HD.out.2)
        have Hm := hide hm
        clear hm
        have kP := HB.out.1.below G HB.out.1.lt
        have kX := HB.out.2.1.below G HB.out.2.1.lt
        have z0 := G.size
        by_cases hlt : k < fs.length
        · obtain ⟨b', off, s, v, rfl, hd, _, hb', y0, y1⟩ := ((H.out.2.2.below HB.out.2.2.1).below G).fs_at hlt
          have Hd := hide hd
          clear hd
          obtain ⟨tX, qX0, qX1, qX2, qX3, qX4⟩ := kX.q5
          go_wp2_with fail
          go_call (l1Value_any v _) as r w2 ⟨rfl, rfl⟩
          generalize hx : btw v 0 9999 = x2
          have Hx := hide hx
          clear hx
          cases x2
          · go_wp2
            go_ret
            refine ⟨ret_bool ?_, HB.out.2.2.1.trans (G.mono HB.out.2.2.2)⟩
            have hf0 : fs.all futB = false := by rw [Hm.out, Hd.out]; simp [futB, Hx.out]
            rw [E0.out, hf0]; simp
          cases s
          · by_cases hv : v = 0
            · have hvb : (v != 0) = false := by simp [hv]
              have hh := hide hv
              go_wp2
              go_roundw
              case rel => exact ⟨k + 1, by omega, by go_num, by rw [Hm.out, Hd.out]; simp [futB, hh.out, btw], G0⟩
              case measure => simp [intOf]; omega
            · have hvb : (v != 0) = true := by simpa using hv
              have hh := hide hv
              go_wp2
              go_ret
              refine ⟨ret_bool ?_, HB.out.2.2.1.trans (G.mono HB.out.2.2.2)⟩
              have hf0 : fs.all futB = false := by rw [Hm.out, Hd.out]; simp [futB, hh.out]
              rw [E0.out, hf0]; simp
          · go_wp2
            go_roundw
            case rel => exact ⟨k + 1, by omega, by go_num, by rw [Hm.out, Hd.out]; simp [futB, Hx.out], G0⟩
            case measure => simp [intOf]; omega
        · obtain rfl : k = fs.length := by omega
          obtain ⟨tP, qP0, qP1, qP2, qP3, qP4⟩ := kP.q5
          obtain ⟨tX, qX0, qX1, qX2, qX3, qX4⟩ := kX.q5
          go_wp2_with fail
          have hG : Below w.heap.size w U := HB.out.2.2.1.trans (G.mono HB.out.2.2.2)
          go_call (l3Tasks_any a b c ks.length fs.length ts A0 A1 A2 c0 ks.length c1 fs.length c2 tn st _ ht (H.out.1.below hG)) as r w3 ⟨rfl, hb3⟩
          go_wp2_with fail
          go_ret
          refine ⟨ret_bool ?_, hG.trans (hb3.mono hG.size)⟩
          have hf1 : fs.all futB = true := by rw [Hm.out]; simp
          rw [E0.out, Hk.out, hf1]; simp
end Go.Proofs.Ytgncjcnobojgbaa

namespace Go.Proofs.Ytgncjcnobojgbaa
open Go.RowKit
set_option linter.unusedVariables false

def mayB (a b c d e : Int) (ts : List T7) (ks : List Int) (fs : List F2) (tn w : Int) : Bool := poolB a b c d e ts ks fs tn && workB a b c d e w

set_option maxHeartbeats 4000000 in
theorem l6May_any (a b c d e : Int) (ts : List T7) (ks : List Int) (fs : List F2) (A0 A1 A2 : Option Addr) (c0 c1 c2 : Nat) (tn : Int) (st : Bool) (wk : Int) (w : World) (ht : ts.length ≤ 1048576) (hk : ks.length ≤ 1048576) (hf : fs.length ≤ 1048576) (h : InPool w ts ks fs A0 A1 A2) :
    Calls Try.prog 89 #[.agg #[.int .i64 a, .int .i64 b, .int .i64 c, .int .i64 d, .int .i64 e], .agg #[.slice A0 ts.length c0, .slice A1 ks.length c1, .slice A2 fs.length c2, .int .i64 tn, .bool st], .int .i64 wk] w fun r w' => r = .returned (.bool (mayB a b c d e ts ks fs tn wk)) ∧ Below w.heap.size w w' := by
  have H := hide h
  clear h
  have q0 : Hid (∀ V, Below w.heap.size w V → Calls Try.prog 21 #[.agg #[.int .i64 a, .int .i64 b, .int .i64 c, .int .i64 d, .int .i64 e], .agg #[.slice A0 ts.length c0, .slice A1 ks.length c1, .slice A2 fs.length c2, .int .i64 tn, .bool st]] V fun r w' => r = .returned (.bool (poolB a b c d e ts ks fs tn)) ∧ Below V.heap.size V w') := hide (fun V hV => sPoolOk_any a b c d e ts ks fs A0 A1 A2 c0 c1 c2 tn st V ht hk hf (H.out.below hV))
  unfold mayB
  generalize poolB a b c d e ts ks fs tn = x0 at q0 ⊢
  go_enter Try.func89, Try.ntmps89
  go_wp2_with fail
  have G := Below.refl w.heap.size w
  have kP := Blk.new w 28 #[.int .i64 a, .int .i64 b, .int .i64 c, .int .i64 d, .int .i64 e]
  have hbs := G.size
  replace G := G.alloc (by omega) (.cells #[.int .i64 a, .int .i64 b, .int .i64 c, .int .i64 d, .int .i64 e] 28)
  have z1 : (w.alloc (.cells #[.int .i64 a, .int .i64 b, .int .i64 c, .int .i64 d, .int .i64 e] 28)).heap.size = w.heap.size + 1 := by simp
  clear hbs
  generalize w.alloc (.cells #[.int .i64 a, .int .i64 b, .int .i64 c, .int .i64 d, .int .i64 e] 28) = W1 at kP G z1 ⊢
  have kX : Blk (W1.alloc (.cells #[.slice A0 ts.length c0, .slice A1 ks.length c1, .slice A2 fs.length c2, .int .i64 tn, .bool st] 34)) (w.heap.size + 1) 34 #[.slice A0 ts.length c0, .slice A1 ks.length c1, .slice A2 fs.length c2, .int .i64 tn, .bool st] := by
    have h := Blk.new W1 34 #[.slice A0 ts.length c0, .slice A1 ks.length c1, .slice A2 fs.length c2, .int .i64 tn, .bool st]
    rw [show W1.heap.size = w.heap.size + 1 by omega] at h
    exact h
  replace kP := kP.alloc (.cells #[.slice A0 ts.length c0, .slice A1 ks.length c1, .slice A2 fs.length c2, .int .i64 tn, .bool st] 34)
  have hbs := G.size
  replace G := G.alloc (by omega) (.cells #[.slice A0 ts.length c0, .slice A1 ks.length c1, .slice A2 fs.length c2, .int .i64 tn, .bool st] 34)
  have z2 : (W1.alloc (.cells #[.slice A0 ts.length c0, .slice A1 ks.length c1, .slice A2 fs.length c2, .int .i64 tn, .bool st] 34)).heap.size = W1.heap.size + 1 := by simp
  clear hbs
  generalize W1.alloc (.cells #[.slice A0 ts.length c0, .slice A1 ks.length c1, .slice A2 fs.length c2, .int .i64 tn, .bool st] 34) = W2 at kP kX G z2 ⊢
  go_call (q0.out _ G) as r W3 ⟨rfl, g1⟩
  have hbs := G.size
  replace kP := kP.below g1 kP.lt
  replace kX := kX.below g1 kX.lt
  replace G := G.trans (g1.mono (by omega))
  have z3 := g1.size
  clear g1 hbs
  cases x0
  · have tP : w.heap.size < W3.heap.size := kP.lt
    have qP0 : W3.cell? ⟨w.heap.size, 0, none⟩ = some (.int .i64 a) := kP.cell 0
    have qP1 : W3.cell? ⟨w.heap.size, 1, none⟩ = some (.int .i64 b) := kP.cell 1
    have qP2 : W3.cell? ⟨w.heap.size, 2, none⟩ = some (.int .i64 c) := kP.cell 2
    have qP3 : W3.cell? ⟨w.heap.size, 3, none⟩ = some (.int .i64 d) := kP.cell 3
    have qP4 : W3.cell? ⟨w.heap.size, 4, none⟩ = some (.int .i64 e) := kP.cell 4
    have tX : w.heap.size + 1 < W3.heap.size := kX.lt
    have qX0 : W3.cell? ⟨w.heap.size + 1, 0, none⟩ = some (.slice A0 ts.length c0) := kX.cell 0
    have qX1 : W3.cell? ⟨w.heap.size + 1, 1, none⟩ = some (.slice A1 ks.length c1) := kX.cell 1
    have qX2 : W3.cell? ⟨w.heap.size + 1, 2, none⟩ = some (.slice A2 fs.length c2) := kX.cell 2
    have qX3 : W3.cell? ⟨w.heap.size + 1, 3, none⟩ = some (.int .i64 tn) := kX.cell 3
    have qX4 : W3.cell? ⟨w.heap.size + 1, 4, none⟩ = some (.bool st) := kX.cell 4
    go_wp2_with fail
    go_ret
    exact ⟨ret_bool (by simp), G⟩
  · have tP : w.heap.size < W3.heap.size := kP.lt
    have qP0 : W3.cell? ⟨w.heap.size, 0, none⟩ = some (.int .i64 a) := kP.cell 0
    have qP1 : W3.cell? ⟨w.heap.size, 1, none⟩ = some (.int .i64 b) := kP.cell 1
    have qP2 : W3.cell? ⟨w.heap.size, 2, none⟩ = some (.int .i64 c) := kP.cell 2
    have qP3 : W3.cell? ⟨w.heap.size, 3, none⟩ = some (.int .i64 d) := kP.cell 3
    have qP4 : W3.cell? ⟨w.heap.size, 4, none⟩ = some (.int .i64 e) := kP.cell 4
    have tX : w.heap.size + 1 < W3.heap.size := kX.lt
    have qX0 : W3.cell? ⟨w.heap.size + 1, 0, none⟩ = some (.slice A0 ts.length c0) := kX.cell 0
    have qX1 : W3.cell? ⟨w.heap.size + 1, 1, none⟩ = some (.slice A1 ks.length c1) := kX.cell 1
    have qX2 : W3.cell? ⟨w.heap.size + 1, 2, none⟩ = some (.slice A2 fs.length c2) := kX.cell 2
    have qX3 : W3.cell? ⟨w.heap.size + 1, 3, none⟩ = some (.int .i64 tn) := kX.cell 3
    have qX4 : W3.cell? ⟨w.heap.size + 1, 4, none⟩ = some (.bool st) := kX.cell 4
    go_wp2_with fail
    go_call (sWorkerIn_any a b c d e wk _) as r W4 ⟨rfl, g1⟩
    clear tP qP0 qP1 qP2 qP3 qP4 tX qX0 qX1 qX2 qX3 qX4
    have hbs := G.size
    replace kP := kP.below g1 kP.lt
    replace kX := kX.below g1 kX.lt
    replace G := G.trans (g1.mono (by omega))
    have z4 := g1.size
    clear g1 hbs
    have tP : w.heap.size < W4.heap.size := kP.lt
    have qP0 : W4.cell? ⟨w.heap.size, 0, none⟩ = some (.int .i64 a) := kP.cell 0
    have qP1 : W4.cell? ⟨w.heap.size, 1, none⟩ = some (.int .i64 b) := kP.cell 1
    have qP2 : W4.cell? ⟨w.heap.size, 2, none⟩ = some (.int .i64 c) := kP.cell 2
    have qP3 : W4.cell? ⟨w.heap.size, 3, none⟩ = some (.int .i64 d) := kP.cell 3
    have qP4 : W4.cell? ⟨w.heap.size, 4, none⟩ = some (.int .i64 e) := kP.cell 4
    have tX : w.heap.size + 1 < W4.heap.size := kX.lt
    have qX0 : W4.cell? ⟨w.heap.size + 1, 0, none⟩ = some (.slice A0 ts.length c0) := kX.cell 0
    have qX1 : W4.cell? ⟨w.heap.size + 1, 1, none⟩ = some (.slice A1 ks.length c1) := kX.cell 1
    have qX2 : W4.cell? ⟨w.heap.size + 1, 2, none⟩ = some (.slice A2 fs.length c2) := kX.cell 2
    have qX3 : W4.cell? ⟨w.heap.size + 1, 3, none⟩ = some (.int .i64 tn) := kX.cell 3
    have qX4 : W4.cell? ⟨w.heap.size + 1, 4, none⟩ = some (.bool st) := kX.cell 4
    go_wp2_with fail
    go_ret
    exact ⟨ret_bool (by simp), G⟩

def argsM (c : Int) : Int := if c = 7 ∨ c = 10 then 2 else if c = 2 ∨ c = 3 ∨ c = 12 then 0 else 1
set_option maxHeartbeats 4000000 in
theorem l10Args_any (c : Int) (w : World) : Calls Try.prog 138 #[.int .i64 c] w fun r w' => r = .returned (.int .i64 (argsM c)) ∧ w = w' := by
  by_cases h7 : c = 7
  · subst h7
    rw [show argsM 7 = 2 from rfl]
    go_enter Try.func138, Try.ntmps138
    go_wp2
    go_ret
    exact ⟨rfl, rfl⟩
  by_cases h10 : c = 10
  · subst h10
    rw [show argsM 10 = 2 from rfl]
    go_enter Try.func138, Try.ntmps138
    go_wp2
    go_ret
    exact ⟨rfl, rfl⟩
  by_cases h2 : c = 2
  · subst h2
    rw [show argsM 2 = 0 from rfl]
    go_enter Try.func138, Try.ntmps138
    go_wp2
    go_ret
    exact ⟨rfl, rfl⟩
  by_cases h3 : c = 3
  · subst h3
    rw [show argsM 3 = 0 from rfl]
    go_enter Try.func138, Try.ntmps138
    go_wp2
    go_ret
    exact ⟨rfl, rfl⟩
  by_cases h12 : c = 12
  · subst h12
    rw [show argsM 12 = 0 from rfl]
    go_enter Try.func138, Try.ntmps138
    go_wp2
    go_ret
    exact ⟨rfl, rfl⟩
  rw [show argsM c = 1 from by simp [argsM, h7, h10, h2, h3, h12]]
  go_enter Try.func138, Try.ntmps138
  go_wp2
  go_ret
  exact ⟨rfl, rfl⟩

def callB (c x y : Int) : Bool := (btw c 1 12 && (btw x 0 9999 && btw y 0 9999)) && ((decide (0 < argsM c) || x == 0) && (decide (1 < argsM c) || y == 0))
theorem l1Value_v (v : Int) (z : Bool) (h : btw v 0 9999 = z) (w : World) : Calls Try.prog 60 #[.int .i64 v] w fun r w' => r = .returned (.bool z) ∧ w = w' := h ▸ l1Value_any v w
theorem l1In_v (n l h : Int) (z : Bool) (e : btw n l h = z) (w : World) : Calls Try.prog 59 #[.int .i64 n, .int .i64 l, .int .i64 h] w fun r w' => r = .returned (.bool z) ∧ w = w' := e ▸ l1In_any n l h w
theorem l10Args_v (c n : Int) (e : argsM c = n) (w : World) : Calls Try.prog 138 #[.int .i64 c] w fun r w' => r = .returned (.int .i64 n) ∧ w = w' := e ▸ l10Args_any c w

set_option maxRecDepth 100000 in
set_option maxHeartbeats 8000000 in
theorem callOk_any (c x y : Int) (w : World) : Calls Try.prog 105 #[.agg #[.int .i64 c, .int .i64 x, .int .i64 y]] w fun r w' => r = .returned (.bool (callB c x y)) ∧ Below w.heap.size w w' := by
  have harg : argsM c = 0 ∨ argsM c = 1 ∨ argsM c = 2 := by unfold argsM; split <;> (try split) <;> simp
  obtain ⟨x1, e1⟩ : ∃ z, btw c 1 12 = z := ⟨_, rfl⟩
  obtain ⟨x2, e2⟩ : ∃ z, btw x 0 9999 = z := ⟨_, rfl⟩
  obtain ⟨x3, e3⟩ : ∃ z, btw y 0 9999 = z := ⟨_, rfl⟩
  obtain ⟨n, e4⟩ : ∃ n, argsM c = n := ⟨_, rfl⟩
  rw [e4] at harg
  have E := hide (⟨e1, e2, e3, e4⟩ : _ ∧ _ ∧ _ ∧ _)
  unfold callB
  rw [e1, e2, e3, e4]
  clear e1 e2 e3 e4
  cases x1
  · go_enter Try.func105, Try.ntmps105
    go_wp2_with (first | (go_at_call 59; refine (l1In_v c 1 12 _ E.out.1 _).mono ?_; rintro r w' ⟨rfl, rfl⟩) | (go_at_call 60; refine (l1Value_v x _ E.out.2.1 _).mono ?_; rintro r w' ⟨rfl, rfl⟩) | (go_at_call 60; refine (l1Value_v y _ E.out.2.2.1 _).mono ?_; rintro r w' ⟨rfl, rfl⟩) | (go_at_call 138; refine (l10Args_v c _ E.out.2.2.2 _).mono ?_; rintro r w' ⟨rfl, rfl⟩))
    all_goals go_ret
    all_goals exact ⟨ret_bool (by simp_all), by go_grown⟩
  cases x2
  · go_enter Try.func105, Try.ntmps105
    go_wp2_with (first | (go_at_call 59; refine (l1In_v c 1 12 _ E.out.1 _).mono ?_; rintro r w' ⟨rfl, rfl⟩) | (go_at_call 60; refine (l1Value_v x _ E.out.2.1 _).mono ?_; rintro r w' ⟨rfl, rfl⟩) | (go_at_call 60; refine (l1Value_v y _ E.out.2.2.1 _).mono ?_; rintro r w' ⟨rfl, rfl⟩) | (go_at_call 138; refine (l10Args_v c _ E.out.2.2.2 _).mono ?_; rintro r w' ⟨rfl, rfl⟩))
    all_goals go_ret
    all_goals exact ⟨ret_bool (by simp_all), by go_grown⟩
  cases x3
  · go_enter Try.func105, Try.ntmps105
    go_wp2_with (first | (go_at_call 59; refine (l1In_v c 1 12 _ E.out.1 _).mono ?_; rintro r w' ⟨rfl, rfl⟩) | (go_at_call 60; refine (l1Value_v x _ E.out.2.1 _).mono ?_; rintro r w' ⟨rfl, rfl⟩) | (go_at_call 60; refine (l1Value_v y _ E.out.2.2.1 _).mono ?_; rintro r w' ⟨rfl, rfl⟩) | (go_at_call 138; refine (l10Args_v c _ E.out.2.2.2 _).mono ?_; rintro r w' ⟨rfl, rfl⟩))
    all_goals go_ret
    all_goals exact ⟨ret_bool (by simp_all), by go_grown⟩
  rcases harg with rfl | rfl | rfl
  · go_enter Try.func105, Try.ntmps105
    go_wp2_with (first | (go_at_call 59; refine (l1In_v c 1 12 _ E.out.1 _).mono ?_; rintro r w' ⟨rfl, rfl⟩) | (go_at_call 60; refine (l1Value_v x _ E.out.2.1 _).mono ?_; rintro r w' ⟨rfl, rfl⟩) | (go_at_call 60; refine (l1Value_v y _ E.out.2.2.1 _).mono ?_; rintro r w' ⟨rfl, rfl⟩) | (go_at_call 138; refine (l10Args_v c _ E.out.2.2.2 _).mono ?_; rintro r w' ⟨rfl, rfl⟩))
    all_goals go_ret
    all_goals exact ⟨ret_bool (by simp_all), by go_grown⟩
  · go_enter Try.func105, Try.ntmps105
    go_wp2_with (first | (go_at_call 59; refine (l1In_v c 1 12 _ E.out.1 _).mono ?_; rintro r w' ⟨rfl, rfl⟩) | (go_at_call 60; refine (l1Value_v x _ E.out.2.1 _).mono ?_; rintro r w' ⟨rfl, rfl⟩) | (go_at_call 60; refine (l1Value_v y _ E.out.2.2.1 _).mono ?_; rintro r w' ⟨rfl, rfl⟩) | (go_at_call 138; refine (l10Args_v c _ E.out.2.2.2 _).mono ?_; rintro r w' ⟨rfl, rfl⟩))
    all_goals go_ret
    all_goals exact ⟨ret_bool (by simp_all), by go_grown⟩
  · go_enter Try.func105, Try.ntmps105
    go_wp2_with (first | (go_at_call 59; refine (l1In_v c 1 12 _ E.out.1 _).mono ?_; rintro r w' ⟨rfl, rfl⟩) | (go_at_call 60; refine (l1Value_v x _ E.out.2.1 _).mono ?_; rintro r w' ⟨rfl, rfl⟩) | (go_at_call 60; refine (l1Value_v y _ E.out.2.2.1 _).mono ?_; rintro r w' ⟨rfl, rfl⟩) | (go_at_call 138; refine (l10Args_v c _ E.out.2.2.2 _).mono ?_; rintro r w' ⟨rfl, rfl⟩))
    all_goals go_ret
    all_goals exact ⟨ret_bool (by simp_all), by go_grown⟩
end Go.Proofs.Ytgncjcnobojgbaa

namespace Go.Proofs.Ytgncjcnobojgbaa
open Go.RowKit
set_option linter.unusedVariables false

/-- A new row that is a block of the world as it stands. -/
theorem OwnR.made {w : World} {lo : Nat} {e : TypeId} {size g n : Nat} {xs : List Value} {cs : Array Value} (h : Blk w g e cs) (hl : lo ≤ g) (hm : n ≤ maxLen) (hs : cs.size = n * size) (hx : cs.toList = xs) : OwnR w lo w.heap.size e size (.slice (some ⟨g, 0, none⟩) n n) n xs := by
  refine ⟨⟨?_, .inr ⟨g, n, cs, rfl, hl, h, Nat.le_refl _, hm, hs, ?_⟩⟩, fun k hk => ?_⟩
  · rw [← hx, Array.length_toList, hs]
  · rw [← hx, List.take_of_length_le (by rw [Array.length_toList, hs]; exact Nat.le_refl _)]
  · have : g = k := by simpa [Value.ownBlock] using hk
    subst this; exact h.lt
theorem OwnR.nil_ (w : World) (lo hi : Nat) (e : TypeId) (size : Nat) : OwnR w lo hi e size (.slice none 0 0) 0 [] := ⟨World.ownsRow_nil _ _ _ _, fun k hk => by simp [Value.ownBlock] at hk⟩
theorem madeI (n : Nat) (w : World) (lo g : Nat) (hl : lo ≤ g) (hn : n ≤ 1048576) (h : Blk w g 2 (madeCells #[.int .i64 0] n)) : OwnR w lo w.heap.size 2 1 (.slice (some ⟨g, 0, none⟩) (List.replicate n (0 : Int)).length n) (List.replicate n (0 : Int)).length (icells (List.replicate n 0)) := by
  rw [List.length_replicate]
  exact OwnR.made h hl (by unfold maxLen; omega) (by rw [size_madeCells]; omega) (by have := imade n; rw [Nat.mul_one] at this; exact this)
theorem madeF (n : Nat) (w : World) (lo g : Nat) (hl : lo ≤ g) (hn : n ≤ 1048576) (h : Blk w g 90 (madeCells #[.bool false, .int .i64 0] (n * 2))) : OwnR w lo w.heap.size 90 2 (.slice (some ⟨g, 0, none⟩) (List.replicate n (⟨false, 0⟩ : F2)).length n) (List.replicate n (⟨false, 0⟩ : F2)).length (fcells (List.replicate n ⟨false, 0⟩)) := by
  rw [List.length_replicate]
  exact OwnR.made h hl (by unfold maxLen; omega) (by rw [size_madeCells]) (fmade n)
theorem madeT (n : Nat) (w : World) (lo g : Nat) (hl : lo ≤ g) (hn : n ≤ 1048576) (h : Blk w g 46 (madeCells #[.int .i64 0, .int .i64 0, .int .i64 0, .int .i64 0, .int .i64 0, .int .i64 0, .int .i64 0] (n * 7))) : OwnR w lo w.heap.size 46 7 (.slice (some ⟨g, 0, none⟩) (List.replicate n (⟨0, 0, 0, 0, 0, 0, 0⟩ : T7)).length n) (List.replicate n (⟨0, 0, 0, 0, 0, 0, 0⟩ : T7)).length (tcells (List.replicate n ⟨0, 0, 0, 0, 0, 0, 0⟩)) := by
  rw [List.length_replicate]
  exact OwnR.made h hl (by unfold maxLen; omega) (by rw [size_madeCells]) (tmade n)

set_option maxRecDepth 100000 in
set_option maxHeartbeats 4000000 in
theorem sNewPool_any (a b c : Int) (d e : Nat) (w : World) (hp : planB a b c d e = true) :
    Calls Try.prog 50 #[.agg #[.int .i64 a, .int .i64 b, .int .i64 c, .int .i64 d, .int .i64 e]] w (MadePool w [] (List.replicate d 0) (List.replicate e ⟨false, 0⟩) 1 false) := by
  have hbd := planB_all hp
  obtain ⟨i0, hi, hz0, hz1, hz2⟩ := info_parts infoInt
  obtain ⟨i1, gi, gz0, gz1, gz2⟩ := info_parts infoFut
  have m0 := fun w => run_make (P := Try.prog) w 31 2 i0 (.int .i64 0) Try.underlying31 hi hz0 .i64 .i64 d d (by omega) (by omega) (by rw [hz2]; omega) (by omega)
  have m1 := fun w => run_make (P := Try.prog) w 32 90 i1 (.agg #[.bool false, .int .i64 0]) Try.underlying32 gi gz0 .i64 .i64 e e (by omega) (by omega) (by rw [gz2]; omega) (by omega)
  rw [hz1] at m0
  rw [gz1] at m1
  simp only [Int.toNat_natCast] at m0 m1
  go_enter Try.func50, Try.ntmps50
  go_wp2_with fail
  have G := Below.refl w.heap.size w
  have kP := Blk.new w 28 #[.int .i64 a, .int .i64 b, .int .i64 c, .int .i64 d, .int .i64 e]
  have hbs := G.size
  replace G := G.alloc (by omega) (.cells #[.int .i64 a, .int .i64 b, .int .i64 c, .int .i64 d, .int .i64 e] 28)
  have z1 : (w.alloc (.cells #[.int .i64 a, .int .i64 b, .int .i64 c, .int .i64 d, .int .i64 e] 28)).heap.size = w.heap.size + 1 := by simp
  clear hbs
  generalize w.alloc (.cells #[.int .i64 a, .int .i64 b, .int .i64 c, .int .i64 d, .int .i64 e] 28) = W1 at kP G z1 ⊢
  have kR : Blk (W1.alloc (.cells #[.slice none 0 0, .slice none 0 0, .slice none 0 0, .int .i64 0, .bool false] 34)) (w.heap.size + 1) 34 #[.slice none 0 0, .slice none 0 0, .slice none 0 0, .int .i64 0, .bool false] := by
    have h := Blk.new W1 34 #[.slice none 0 0, .slice none 0 0, .slice none 0 0, .int .i64 0, .bool false]
    rw [show W1.heap.size = w.heap.size + 1 by omega] at h
    exact h
  replace kP := kP.alloc (.cells #[.slice none 0 0, .slice none 0 0, .slice none 0 0, .int .i64 0, .bool false] 34)
  have hbs := G.size
  replace G := G.alloc (by omega) (.cells #[.slice none 0 0, .slice none 0 0, .slice none 0 0, .int .i64 0, .bool false] 34)
  have z2 : (W1.alloc (.cells #[.slice none 0 0, .slice none 0 0, .slice none 0 0, .int .i64 0, .bool false] 34)).heap.size = W1.heap.size + 1 := by simp
  clear hbs
  generalize W1.alloc (.cells #[.slice none 0 0, .slice none 0 0, .slice none 0 0, .int .i64 0, .bool false] 34) = W2 at kP kR G z2 ⊢
  go_call (sPlanOk_any a b c d e _) as r W3 ⟨rfl, g1⟩
  have hbs := G.size
  replace kP := kP.below g1 kP.lt
  replace kR := kR.below g1 kR.lt
  replace G := G.trans (g1.mono (by omega))
  have z3 := g1.size
  clear g1 hbs
  rw [hp]
  obtain ⟨tP, qP0, fP0, qP1, fP1, qP2, fP2, qP3, fP3, qP4, fP4⟩ := kP.f5
  obtain ⟨tR, qR0, fR0, qR1, fR1, qR2, fR2, qR3, fR3, qR4, fR4⟩ := kR.f5
  go_wp2_with fail
  go_region
  all_goals go_wp2
  · clear tP qP0 fP0 qP1 fP1 qP2 fP2 qP3 fP3 qP4 fP4 tR qR0 fR0 qR1 fR1 qR2 fR2 qR3 fR3 qR4 fR4
    replace kP := kP.far (p := ⟨w.heap.size + 1, 0, none⟩) (show w.heap.size ≠ w.heap.size + 1 by omega) (.slice none 0 0)
    replace kR : Blk (W3.setCell ⟨w.heap.size + 1, 0, none⟩ (.slice none 0 0)) (w.heap.size + 1) 34 #[.slice none 0 0, .slice none 0 0, .slice none 0 0, .int .i64 0, .bool false] := kR.set_ 0 (.slice none 0 0)
    replace G : Below w.heap.size w (W3.setCell ⟨w.heap.size + 1, 0, none⟩ (.slice none 0 0)) := Below.setCell G (show w.heap.size ≤ w.heap.size + 1 by omega) _
    have z4 : (W3.setCell ⟨w.heap.size + 1, 0, none⟩ (.slice none 0 0)).heap.size = W3.heap.size := by simp [World.setCell]
    generalize W3.setCell ⟨w.heap.size + 1, 0, none⟩ (.slice none 0 0) = W4 at kP kR G z4 ⊢
    replace kP := kP.far (p := ⟨w.heap.size + 1, 1, none⟩) (show w.heap.size ≠ w.heap.size + 1 by omega) (.slice (some ⟨W3.heap.size, 0, none⟩) d d)
    replace kR : Blk (W4.setCell ⟨w.heap.size + 1, 1, none⟩ (.slice (some ⟨W3.heap.size, 0, none⟩) d d)) (w.heap.size + 1) 34 #[.slice none 0 0, .slice (some ⟨W3.heap.size, 0, none⟩) d d, .slice none 0 0, .int .i64 0, .bool false] := kR.set_ 1 (.slice (some ⟨W3.heap.size, 0, none⟩) d d)
    replace G : Below w.heap.size w (W4.setCell ⟨w.heap.size + 1, 1, none⟩ (.slice (some ⟨W3.heap.size, 0, none⟩) d d)) := Below.setCell G (show w.heap.size ≤ w.heap.size + 1 by omega) _
    have z5 : (W4.setCell ⟨w.heap.size + 1, 1, none⟩ (.slice (some ⟨W3.heap.size, 0, none⟩) d d)).heap.size = W4.heap.size := by simp [World.setCell]
    generalize W4.setCell ⟨w.heap.size + 1, 1, none⟩ (.slice (some ⟨W3.heap.size, 0, none⟩) d d) = W5 at kP kR G z5 ⊢
    replace kP := kP.far (p := ⟨w.heap.size + 1, 2, none⟩) (show w.heap.size ≠ w.heap.size + 1 by omega) (.slice (some ⟨W3.heap.size + 1, 0, none⟩) e e)
    replace kR : Blk (W5.setCell ⟨w.heap.size + 1, 2, none⟩ (.slice (some ⟨W3.heap.size + 1, 0, none⟩) e e)) (w.heap.size + 1) 34 #[.slice none 0 0, .slice (some ⟨W3.heap.size, 0, none⟩) d d, .slice (some ⟨W3.heap.size + 1, 0, none⟩) e e, .int .i64 0, .bool false] := kR.set_ 2 (.slice (some ⟨W3.heap.size + 1, 0, none⟩) e e)
    replace G : Below w.heap.size w (W5.setCell ⟨w.heap.size + 1, 2, none⟩ (.slice (some ⟨W3.heap.size + 1, 0, none⟩) e e)) := Below.setCell G (show w.heap.size ≤ w.heap.size + 1 by omega) _
    have z6 : (W5.setCell ⟨w.heap.size + 1, 2, none⟩ (.slice (some ⟨W3.heap.size + 1, 0, none⟩) e e)).heap.size = W5.heap.size := by simp [World.setCell]
    generalize W5.setCell ⟨w.heap.size + 1, 2, none⟩ (.slice (some ⟨W3.heap.size + 1, 0, none⟩) e e) = W6 at kP kR G z6 ⊢
    replace kP := kP.far (p := ⟨w.heap.size + 1, 3, none⟩) (show w.heap.size ≠ w.heap.size + 1 by omega) (.int .i64 1)
    replace kR : Blk (W6.setCell ⟨w.heap.size + 1, 3, none⟩ (.int .i64 1)) (w.heap.size + 1) 34 #[.slice none 0 0, .slice (some ⟨W3.heap.size, 0, none⟩) d d, .slice (some ⟨W3.heap.size + 1, 0, none⟩) e e, .int .i64 1, .bool false] := kR.set_ 3 (.int .i64 1)
    replace G : Below w.heap.size w (W6.setCell ⟨w.heap.size + 1, 3, none⟩ (.int .i64 1)) := Below.setCell G (show w.heap.size ≤ w.heap.size + 1 by omega) _
    have z7 : (W6.setCell ⟨w.heap.size + 1, 3, none⟩ (.int .i64 1)).heap.size = W6.heap.size := by simp [World.setCell]
    generalize W6.setCell ⟨w.heap.size + 1, 3, none⟩ (.int .i64 1) = W7 at kP kR G z7 ⊢
    replace kP := kP.far (p := ⟨w.heap.size + 1, 4, none⟩) (show w.heap.size ≠ w.heap.size + 1 by omega) (.bool false)
    replace kR : Blk (W7.setCell ⟨w.heap.size + 1, 4, none⟩ (.bool false)) (w.heap.size + 1) 34 #[.slice none 0 0, .slice (some ⟨W3.heap.size, 0, none⟩) d d, .slice (some ⟨W3.heap.size + 1, 0, none⟩) e e, .int .i64 1, .bool false] := kR.set_ 4 (.bool false)
    replace G : Below w.heap.size w (W7.setCell ⟨w.heap.size + 1, 4, none⟩ (.bool false)) := Below.setCell G (show w.heap.size ≤ w.heap.size + 1 by omega) _
    have z8 : (W7.setCell ⟨w.heap.size + 1, 4, none⟩ (.bool false)).heap.size = W7.heap.size := by simp [World.setCell]
    generalize W7.setCell ⟨w.heap.size + 1, 4, none⟩ (.bool false) = W8 at kP kR G z8 ⊢
    have kI : Blk (W8.alloc (.cells (madeCells #[.int .i64 0] d) 2)) (W3.heap.size) 2 (madeCells #[.int .i64 0] d) := by
      have h := Blk.new W8 2 (madeCells #[.int .i64 0] d)
      rw [show W8.heap.size = W3.heap.size by omega] at h
      exact h
    replace kP := kP.alloc (.cells (madeCells #[.int .i64 0] d) 2)
    replace kR := kR.alloc (.cells (madeCells #[.int .i64 0] d) 2)
    have hbs := G.size
    replace G := G.alloc (by omega) (.cells (madeCells #[.int .i64 0] d) 2)
    have z9 : (W8.alloc (.cells (madeCells #[.int .i64 0] d) 2)).heap.size = W8.heap.size + 1 := by simp
    clear hbs
    generalize W8.alloc (.cells (madeCells #[.int .i64 0] d) 2) = W9 at kP kR kI G z9 ⊢
    have kF : Blk (W9.alloc (.cells (madeCells #[.bool false, .int .i64 0] (e * 2)) 90)) (W3.heap.size + 1) 90 (madeCells #[.bool false, .int .i64 0] (e * 2)) := by
      have h := Blk.new W9 90 (madeCells #[.bool false, .int .i64 0] (e * 2))
      rw [show W9.heap.size = W3.heap.size + 1 by omega] at h
      exact h
    replace kP := kP.alloc (.cells (madeCells #[.bool false, .int .i64 0] (e * 2)) 90)
    replace kR := kR.alloc (.cells (madeCells #[.bool false, .int .i64 0] (e * 2)) 90)
    replace kI := kI.alloc (.cells (madeCells #[.bool false, .int .i64 0] (e * 2)) 90)
    have hbs := G.size
    replace G := G.alloc (by omega) (.cells (madeCells #[.bool false, .int .i64 0] (e * 2)) 90)
    have z10 : (W9.alloc (.cells (madeCells #[.bool false, .int .i64 0] (e * 2)) 90)).heap.size = W9.heap.size + 1 := by simp
    clear hbs
    generalize W9.alloc (.cells (madeCells #[.bool false, .int .i64 0] (e * 2)) 90) = W10 at kP kR kI kF G z10 ⊢
    replace kP := kP.drew
    replace kR := kR.drew
    replace kI := kI.drew
    replace kF := kF.drew
    replace G := G.drew
    have z11 : (W10.drew).heap.size = W10.heap.size := rfl
    generalize W10.drew = W11 at kP kR kI kF G z11 ⊢
    obtain ⟨tR, qR0, qR1, qR2, qR3, qR4⟩ := kR.q5
    exact bodyPost_ret (v := .agg #[.slice none 0 0, .slice (some ⟨W3.heap.size, 0, none⟩) d d, .slice (some ⟨W3.heap.size + 1, 0, none⟩) e e, .int .i64 1, .bool false]) (by simp [results, Try.results50, go_sem, qR0, qR1, qR2, qR3, qR4]) rfl ⟨none, some ⟨W3.heap.size, 0, none⟩, some ⟨W3.heap.size + 1, 0, none⟩, 0, d, e, by simp, ⟨OwnR.nil_ _ _ _ _ _, madeI d _ _ _ (by omega) (by omega) kI, madeF e _ _ _ (by omega) (by omega) kF⟩, G⟩
  · clear tP qP0 fP0 qP1 fP1 qP2 fP2 qP3 fP3 qP4 fP4 tR qR0 fR0 qR1 fR1 qR2 fR2 qR3 fR3 qR4 fR4
    replace kP := kP.far (p := ⟨w.heap.size + 1, 0, none⟩) (show w.heap.size ≠ w.heap.size + 1 by omega) (.slice none 0 0)
    replace kR : Blk (W3.setCell ⟨w.heap.size + 1, 0, none⟩ (.slice none 0 0)) (w.heap.size + 1) 34 #[.slice none 0 0, .slice none 0 0, .slice none 0 0, .int .i64 0, .bool false] := kR.set_ 0 (.slice none 0 0)
    replace G : Below w.heap.size w (W3.setCell ⟨w.heap.size + 1, 0, none⟩ (.slice none 0 0)) := Below.setCell G (show w.heap.size ≤ w.heap.size + 1 by omega) _
    have z4 : (W3.setCell ⟨w.heap.size + 1, 0, none⟩ (.slice none 0 0)).heap.size = W3.heap.size := by simp [World.setCell]
    generalize W3.setCell ⟨w.heap.size + 1, 0, none⟩ (.slice none 0 0) = W4 at kP kR G z4 ⊢
    replace kP := kP.far (p := ⟨w.heap.size + 1, 1, none⟩) (show w.heap.size ≠ w.heap.size + 1 by omega) (.slice (some ⟨W3.heap.size + 1, 0, none⟩) d d)
    replace kR : Blk (W4.setCell ⟨w.heap.size + 1, 1, none⟩ (.slice (some ⟨W3.heap.size + 1, 0, none⟩) d d)) (w.heap.size + 1) 34 #[.slice none 0 0, .slice (some ⟨W3.heap.size + 1, 0, none⟩) d d, .slice none 0 0, .int .i64 0, .bool false] := kR.set_ 1 (.slice (some ⟨W3.heap.size + 1, 0, none⟩) d d)
    replace G : Below w.heap.size w (W4.setCell ⟨w.heap.size + 1, 1, none⟩ (.slice (some ⟨W3.heap.size + 1, 0, none⟩) d d)) := Below.setCell G (show w.heap.size ≤ w.heap.size + 1 by omega) _
    have z5 : (W4.setCell ⟨w.heap.size + 1, 1, none⟩ (.slice (some ⟨W3.heap.size + 1, 0, none⟩) d d)).heap.size = W4.heap.size := by simp [World.setCell]
    generalize W4.setCell ⟨w.heap.size + 1, 1, none⟩ (.slice (some ⟨W3.heap.size + 1, 0, none⟩) d d) = W5 at kP kR G z5 ⊢
    replace kP := kP.far (p := ⟨w.heap.size + 1, 2, none⟩) (show w.heap.size ≠ w.heap.size + 1 by omega) (.slice (some ⟨W3.heap.size, 0, none⟩) e e)
    replace kR : Blk (W5.setCell ⟨w.heap.size + 1, 2, none⟩ (.slice (some ⟨W3.heap.size, 0, none⟩) e e)) (w.heap.size + 1) 34 #[.slice none 0 0, .slice (some ⟨W3.heap.size + 1, 0, none⟩) d d, .slice (some ⟨W3.heap.size, 0, none⟩) e e, .int .i64 0, .bool false] := kR.set_ 2 (.slice (some ⟨W3.heap.size, 0, none⟩) e e)
    replace G : Below w.heap.size w (W5.setCell ⟨w.heap.size + 1, 2, none⟩ (.slice (some ⟨W3.heap.size, 0, none⟩) e e)) := Below.setCell G (show w.heap.size ≤ w.heap.size + 1 by omega) _
    have z6 : (W5.setCell ⟨w.heap.size + 1, 2, none⟩ (.slice (some ⟨W3.heap.size, 0, none⟩) e e)).heap.size = W5.heap.size := by simp [World.setCell]
    generalize W5.setCell ⟨w.heap.size + 1, 2, none⟩ (.slice (some ⟨W3.heap.size, 0, none⟩) e e) = W6 at kP kR G z6 ⊢
    replace kP := kP.far (p := ⟨w.heap.size + 1, 3, none⟩) (show w.heap.size ≠ w.heap.size + 1 by omega) (.int .i64 1)
    replace kR : Blk (W6.setCell ⟨w.heap.size + 1, 3, none⟩ (.int .i64 1)) (w.heap.size + 1) 34 #[.slice none 0 0, .slice (some ⟨W3.heap.size + 1, 0, none⟩) d d, .slice (some ⟨W3.heap.size, 0, none⟩) e e, .int .i64 1, .bool false] := kR.set_ 3 (.int .i64 1)
    replace G : Below w.heap.size w (W6.setCell ⟨w.heap.size + 1, 3, none⟩ (.int .i64 1)) := Below.setCell G (show w.heap.size ≤ w.heap.size + 1 by omega) _
    have z7 : (W6.setCell ⟨w.heap.size + 1, 3, none⟩ (.int .i64 1)).heap.size = W6.heap.size := by simp [World.setCell]
    generalize W6.setCell ⟨w.heap.size + 1, 3, none⟩ (.int .i64 1) = W7 at kP kR G z7 ⊢
    replace kP := kP.far (p := ⟨w.heap.size + 1, 4, none⟩) (show w.heap.size ≠ w.heap.size + 1 by omega) (.bool false)
    replace kR : Blk (W7.setCell ⟨w.heap.size + 1, 4, none⟩ (.bool false)) (w.heap.size + 1) 34 #[.slice none 0 0, .slice (some ⟨W3.heap.size + 1, 0, none⟩) d d, .slice (some ⟨W3.heap.size, 0, none⟩) e e, .int .i64 1, .bool false] := kR.set_ 4 (.bool false)
    replace G : Below w.heap.size w (W7.setCell ⟨w.heap.size + 1, 4, none⟩ (.bool false)) := Below.setCell G (show w.heap.size ≤ w.heap.size + 1 by omega) _
    have z8 : (W7.setCell ⟨w.heap.size + 1, 4, none⟩ (.bool false)).heap.size = W7.heap.size := by simp [World.setCell]
    generalize W7.setCell ⟨w.heap.size + 1, 4, none⟩ (.bool false) = W8 at kP kR G z8 ⊢
    have kF : Blk (W8.alloc (.cells (madeCells #[.bool false, .int .i64 0] (e * 2)) 90)) (W3.heap.size) 90 (madeCells #[.bool false, .int .i64 0] (e * 2)) := by
      have h := Blk.new W8 90 (madeCells #[.bool false, .int .i64 0] (e * 2))
      rw [show W8.heap.size = W3.heap.size by omega] at h
      exact h
    replace kP := kP.alloc (.cells (madeCells #[.bool false, .int .i64 0] (e * 2)) 90)
    replace kR := kR.alloc (.cells (madeCells #[.bool false, .int .i64 0] (e * 2)) 90)
    have hbs := G.size
    replace G := G.alloc (by omega) (.cells (madeCells #[.bool false, .int .i64 0] (e * 2)) 90)
    have z9 : (W8.alloc (.cells (madeCells #[.bool false, .int .i64 0] (e * 2)) 90)).heap.size = W8.heap.size + 1 := by simp
    clear hbs
    generalize W8.alloc (.cells (madeCells #[.bool false, .int .i64 0] (e * 2)) 90) = W9 at kP kR kF G z9 ⊢
    have kI : Blk (W9.alloc (.cells (madeCells #[.int .i64 0] d) 2)) (W3.heap.size + 1) 2 (madeCells #[.int .i64 0] d) := by
      have h := Blk.new W9 2 (madeCells #[.int .i64 0] d)
      rw [show W9.heap.size = W3.heap.size + 1 by omega] at h
      exact h
    replace kP := kP.alloc (.cells (madeCells #[.int .i64 0] d) 2)
    replace kR := kR.alloc (.cells (madeCells #[.int .i64 0] d) 2)
    replace kF := kF.alloc (.cells (madeCells #[.int .i64 0] d) 2)
    have hbs := G.size
    replace G := G.alloc (by omega) (.cells (madeCells #[.int .i64 0] d) 2)
    have z10 : (W9.alloc (.cells (madeCells #[.int .i64 0] d) 2)).heap.size = W9.heap.size + 1 := by simp
    clear hbs
    generalize W9.alloc (.cells (madeCells #[.int .i64 0] d) 2) = W10 at kP kR kF kI G z10 ⊢
    replace kP := kP.drew
    replace kR := kR.drew
    replace kF := kF.drew
    replace kI := kI.drew
    replace G := G.drew
    have z11 : (W10.drew).heap.size = W10.heap.size := rfl
    generalize W10.drew = W11 at kP kR kF kI G z11 ⊢
    obtain ⟨tR, qR0, qR1, qR2, qR3, qR4⟩ := kR.q5
    exact bodyPost_ret (v := .agg #[.slice none 0 0, .slice (some ⟨W3.heap.size + 1, 0, none⟩) d d, .slice (some ⟨W3.heap.size, 0, none⟩) e e, .int .i64 1, .bool false]) (by simp [results, Try.results50, go_sem, qR0, qR1, qR2, qR3, qR4]) rfl ⟨none, some ⟨W3.heap.size + 1, 0, none⟩, some ⟨W3.heap.size, 0, none⟩, 0, d, e, by simp, ⟨OwnR.nil_ _ _ _ _ _, madeI d _ _ _ (by omega) (by omega) kI, madeF e _ _ _ (by omega) (by omega) kF⟩, G⟩
end Go.Proofs.Ytgncjcnobojgbaa

namespace Go.Proofs.Ytgncjcnobojgbaa
open Go.RowKit
set_option linter.unusedVariables false

/-- A new pool and an answer. -/
def GavePA (w : World) (ts : List T7) (ks : List Int) (fs : List F2) (tn : Int) (st : Bool) (rp ou : Int) (r : Ending) (w' : World) : Prop :=
  ∃ (A0 A1 A2 : Option Addr) (c0 c1 c2 : Nat), r = .returned (.tuple #[.agg #[.slice A0 ts.length c0, .slice A1 ks.length c1, .slice A2 fs.length c2, .int .i64 tn, .bool st], .agg #[.int .i64 rp, .int .i64 ou]]) ∧ OwnPool w' w.heap.size w'.heap.size ts ks fs A0 A1 A2 c0 c1 c2 ∧ Below w.heap.size w w'
theorem sPoolOk_v (a b c d e : Int) (ts : List T7) (ks : List Int) (fs : List F2) (A0 A1 A2 : Option Addr) (c0 c1 c2 : Nat) (tn : Int) (st : Bool) (z : Bool) (hz : poolB a b c d e ts ks fs tn = z) (w : World) (ht : ts.length ≤ 1048576) (hk : ks.length ≤ 1048576) (hf : fs.length ≤ 1048576) (h : InPool w ts ks fs A0 A1 A2) :
    Calls Try.prog 21 #[.agg #[.int .i64 a, .int .i64 b, .int .i64 c, .int .i64 d, .int .i64 e], .agg #[.slice A0 ts.length c0, .slice A1 ks.length c1, .slice A2 fs.length c2, .int .i64 tn, .bool st]] w fun r w' => r = .returned (.bool z) ∧ Below w.heap.size w w' := hz ▸ sPoolOk_any a b c d e ts ks fs A0 A1 A2 c0 c1 c2 tn st w ht hk hf h

set_option maxRecDepth 100000 in
set_option maxHeartbeats 4000000 in
theorem l6No_yes (a b c d e : Int) (ts : List T7) (ks : List Int) (fs : List F2) (A0 A1 A2 : Option Addr) (c0 c1 c2 : Nat) (tn : Int) (st : Bool) (rp : Int) (w : World) (hz : poolB a b c d e ts ks fs tn = true) (ht : ts.length ≤ 1048576) (hk : ks.length ≤ 1048576) (hf : fs.length ≤ 1048576) (h : InPool w ts ks fs A0 A1 A2) :
    Calls Try.prog 91 #[.agg #[.int .i64 a, .int .i64 b, .int .i64 c, .int .i64 d, .int .i64 e], .agg #[.slice A0 ts.length c0, .slice A1 ks.length c1, .slice A2 fs.length c2, .int .i64 tn, .bool st], .int .i64 rp] w (GavePA w ts ks fs tn st rp 0) := by
  have H := hide h
  have HZ := hide hz
  clear h hz
  go_enter Try.func91, Try.ntmps91
  go_wp2_with fail
  have G := Below.refl w.heap.size w
  have kP := Blk.new w 28 #[.int .i64 a, .int .i64 b, .int .i64 c, .int .i64 d, .int .i64 e]
  have hbs := G.size
  replace G := G.alloc (by omega) (.cells #[.int .i64 a, .int .i64 b, .int .i64 c, .int .i64 d, .int .i64 e] 28)
  have z1 : (w.alloc (.cells #[.int .i64 a, .int .i64 b, .int .i64 c, .int .i64 d, .int .i64 e] 28)).heap.size = w.heap.size + 1 := by simp
  clear hbs
  generalize w.alloc (.cells #[.int .i64 a, .int .i64 b, .int .i64 c, .int .i64 d, .int .i64 e] 28) = W1 at kP G z1 ⊢
  have kX : Blk (W1.alloc (.cells #[.slice A0 ts.length c0, .slice A1 ks.length c1, .slice A2 fs.length c2, .int .i64 tn, .bool st] 34)) (w.heap.size + 1) 34 #[.slice A0 ts.length c0, .slice A1 ks.length c1, .slice A2 fs.length c2, .int .i64 tn, .bool st] := by
    have h := Blk.new W1 34 #[.slice A0 ts.length c0, .slice A1 ks.length c1, .slice A2 fs.length c2, .int .i64 tn, .bool st]
    rw [show W1.heap.size = w.heap.size + 1 by omega] at h
    exact h
  replace kP := kP.alloc (.cells #[.slice A0 ts.length c0, .slice A1 ks.length c1, .slice A2 fs.length c2, .int .i64 tn, .bool st] 34)
  have hbs := G.size
  replace G := G.alloc (by omega) (.cells #[.slice A0 ts.length c0, .slice A1 ks.length c1, .slice A2 fs.length c2, .int .i64 tn, .bool st] 34)
  have z2 : (W1.alloc (.cells #[.slice A0 ts.length c0, .slice A1 ks.length c1, .slice A2 fs.length c2, .int .i64 tn, .bool st] 34)).heap.size = W1.heap.size + 1 := by simp
  clear hbs
  generalize W1.alloc (.cells #[.slice A0 ts.length c0, .slice A1 ks.length c1, .slice A2 fs.length c2, .int .i64 tn, .bool st] 34) = W2 at kP kX G z2 ⊢
  have kR : Blk (W2.alloc (.cells #[.slice none 0 0, .slice none 0 0, .slice none 0 0, .int .i64 0, .bool false] 34)) (w.heap.size + 2) 34 #[.slice none 0 0, .slice none 0 0, .slice none 0 0, .int .i64 0, .bool false] := by
    have h := Blk.new W2 34 #[.slice none 0 0, .slice none 0 0, .slice none 0 0, .int .i64 0, .bool false]
    rw [show W2.heap.size = w.heap.size + 2 by omega] at h
    exact h
  replace kP := kP.alloc (.cells #[.slice none 0 0, .slice none 0 0, .slice none 0 0, .int .i64 0, .bool false] 34)
  replace kX := kX.alloc (.cells #[.slice none 0 0, .slice none 0 0, .slice none 0 0, .int .i64 0, .bool false] 34)
  have hbs := G.size
  replace G := G.alloc (by omega) (.cells #[.slice none 0 0, .slice none 0 0, .slice none 0 0, .int .i64 0, .bool false] 34)
  have z3 : (W2.alloc (.cells #[.slice none 0 0, .slice none 0 0, .slice none 0 0, .int .i64 0, .bool false] 34)).heap.size = W2.heap.size + 1 := by simp
  clear hbs
  generalize W2.alloc (.cells #[.slice none 0 0, .slice none 0 0, .slice none 0 0, .int .i64 0, .bool false] 34) = W3 at kP kX kR G z3 ⊢
  have kS : Blk (W3.alloc (.cells #[.int .i64 0, .int .i64 0] 65)) (w.heap.size + 3) 65 #[.int .i64 0, .int .i64 0] := by
    have h := Blk.new W3 65 #[.int .i64 0, .int .i64 0]
    rw [show W3.heap.size = w.heap.size + 3 by omega] at h
    exact h
  replace kP := kP.alloc (.cells #[.int .i64 0, .int .i64 0] 65)
  replace kX := kX.alloc (.cells #[.int .i64 0, .int .i64 0] 65)
  replace kR := kR.alloc (.cells #[.int .i64 0, .int .i64 0] 65)
  have hbs := G.size
  replace G := G.alloc (by omega) (.cells #[.int .i64 0, .int .i64 0] 65)
  have z4 : (W3.alloc (.cells #[.int .i64 0, .int .i64 0] 65)).heap.size = W3.heap.size + 1 := by simp
  clear hbs
  generalize W3.alloc (.cells #[.int .i64 0, .int .i64 0] 65) = W4 at kP kX kR kS G z4 ⊢
  go_call (sPoolOk_v a b c d e ts ks fs A0 A1 A2 c0 c1 c2 tn st true HZ.out _ ht hk hf (H.out.below G)) as r W5 ⟨rfl, g1⟩
  have hbs := G.size
  replace kP := kP.below g1 kP.lt
  replace kX := kX.below g1 kX.lt
  replace kR := kR.below g1 kR.lt
  replace kS := kS.below g1 kS.lt
  replace G := G.trans (g1.mono (by omega))
  have z5 := g1.size
  clear g1 hbs
  obtain ⟨tP, qP0, fP0, qP1, fP1, qP2, fP2, qP3, fP3, qP4, fP4⟩ := kP.f5
  obtain ⟨tX, qX0, fX0, qX1, fX1, qX2, fX2, qX3, fX3, qX4, fX4⟩ := kX.f5
  obtain ⟨tR, qR0, fR0, qR1, fR1, qR2, fR2, qR3, fR3, qR4, fR4⟩ := kR.f5
  obtain ⟨tS, qS0, fS0, qS1, fS1⟩ := kS.f2
  go_wp2_with fail
  go_call (l3Copy_any ts ks fs A0 A1 A2 c0 c1 c2 tn st _ ht hk hf (H.out.below G)) as r W6 ⟨B0, B1, B2, d0, d1, d2, rfl, own, g1⟩
  clear tP qP0 fP0 qP1 fP1 qP2 fP2 qP3 fP3 qP4 fP4 tX qX0 fX0 qX1 fX1 qX2 fX2 qX3 fX3 qX4 fX4 tR qR0 fR0 qR1 fR1 qR2 fR2 qR3 fR3 qR4 fR4 tS qS0 fS0 qS1 fS1
  have hbs := G.size
  replace kP := kP.below g1 kP.lt
  replace kX := kX.below g1 kX.lt
  replace kR := kR.below g1 kR.lt
  replace kS := kS.below g1 kS.lt
  replace G := G.trans (g1.mono (by omega))
  have z6 := g1.size
  clear g1 hbs
  have rC := own
  clear own
  obtain ⟨tP, qP0, fP0, qP1, fP1, qP2, fP2, qP3, fP3, qP4, fP4⟩ := kP.f5
  obtain ⟨tX, qX0, fX0, qX1, fX1, qX2, fX2, qX3, fX3, qX4, fX4⟩ := kX.f5
  obtain ⟨tR, qR0, fR0, qR1, fR1, qR2, fR2, qR3, fR3, qR4, fR4⟩ := kR.f5
  obtain ⟨tS, qS0, fS0, qS1, fS1⟩ := kS.f2
  go_wp2_with fail
  clear tP qP0 fP0 qP1 fP1 qP2 fP2 qP3 fP3 qP4 fP4 tX qX0 fX0 qX1 fX1 qX2 fX2 qX3 fX3 qX4 fX4 tR qR0 fR0 qR1 fR1 qR2 fR2 qR3 fR3 qR4 fR4 tS qS0 fS0 qS1 fS1
  replace kP := kP.far (p := ⟨w.heap.size + 2, 0, none⟩) (show w.heap.size ≠ w.heap.size + 2 by omega) (.slice B0 ts.length d0)
  replace kX := kX.far (p := ⟨w.heap.size + 2, 0, none⟩) (show w.heap.size + 1 ≠ w.heap.size + 2 by omega) (.slice B0 ts.length d0)
  replace kS := kS.far (p := ⟨w.heap.size + 2, 0, none⟩) (show w.heap.size + 3 ≠ w.heap.size + 2 by omega) (.slice B0 ts.length d0)
  replace kR : Blk (W6.setCell ⟨w.heap.size + 2, 0, none⟩ (.slice B0 ts.length d0)) (w.heap.size + 2) 34 #[.slice B0 ts.length d0, .slice none 0 0, .slice none 0 0, .int .i64 0, .bool false] := kR.set_ 0 (.slice B0 ts.length d0)
  replace rC := rC.store (p := ⟨w.heap.size + 2, 0, none⟩) (show w.heap.size + 2 < W5.heap.size ∨ W6.heap.size ≤ w.heap.size + 2 by omega) (.slice B0 ts.length d0)
  replace G : Below w.heap.size w (W6.setCell ⟨w.heap.size + 2, 0, none⟩ (.slice B0 ts.length d0)) := Below.setCell G (show w.heap.size ≤ w.heap.size + 2 by omega) _
  have z7 : (W6.setCell ⟨w.heap.size + 2, 0, none⟩ (.slice B0 ts.length d0)).heap.size = W6.heap.size := by simp [World.setCell]
  generalize W6.setCell ⟨w.heap.size + 2, 0, none⟩ (.slice B0 ts.length d0) = W7 at kP kX kR kS rC G z7 ⊢
  replace kP := kP.far (p := ⟨w.heap.size + 2, 1, none⟩) (show w.heap.size ≠ w.heap.size + 2 by omega) (.slice B1 ks.length d1)
  replace kX := kX.far (p := ⟨w.heap.size + 2, 1, none⟩) (show w.heap.size + 1 ≠ w.heap.size + 2 by omega) (.slice B1 ks.length d1)
  replace kS := kS.far (p := ⟨w.heap.size + 2, 1, none⟩) (show w.heap.size + 3 ≠ w.heap.size + 2 by omega) (.slice B1 ks.length d1)
  replace kR : Blk (W7.setCell ⟨w.heap.size + 2, 1, none⟩ (.slice B1 ks.length d1)) (w.heap.size + 2) 34 #[.slice B0 ts.length d0, .slice B1 ks.length d1, .slice none 0 0, .int .i64 0, .bool false] := kR.set_ 1 (.slice B1 ks.length d1)
  replace rC := rC.store (p := ⟨w.heap.size + 2, 1, none⟩) (show w.heap.size + 2 < W5.heap.size ∨ W6.heap.size ≤ w.heap.size + 2 by omega) (.slice B1 ks.length d1)
  replace G : Below w.heap.size w (W7.setCell ⟨w.heap.size + 2, 1, none⟩ (.slice B1 ks.length d1)) := Below.setCell G (show w.heap.size ≤ w.heap.size + 2 by omega) _
  have z8 : (W7.setCell ⟨w.heap.size + 2, 1, none⟩ (.slice B1 ks.length d1)).heap.size = W7.heap.size := by simp [World.setCell]
  generalize W7.setCell ⟨w.heap.size + 2, 1, none⟩ (.slice B1 ks.length d1) = W8 at kP kX kR kS rC G z8 ⊢
  replace kP := kP.far (p := ⟨w.heap.size + 2, 2, none⟩) (show w.heap.size ≠ w.heap.size + 2 by omega) (.slice B2 fs.length d2)
  replace kX := kX.far (p := ⟨w.heap.size + 2, 2, none⟩) (show w.heap.size + 1 ≠ w.heap.size + 2 by omega) (.slice B2 fs.length d2)
  replace kS := kS.far (p := ⟨w.heap.size + 2, 2, none⟩) (show w.heap.size + 3 ≠ w.heap.size + 2 by omega) (.slice B2 fs.length d2)
  replace kR : Blk (W8.setCell ⟨w.heap.size + 2, 2, none⟩ (.slice B2 fs.length d2)) (w.heap.size + 2) 34 #[.slice B0 ts.length d0, .slice B1 ks.length d1, .slice B2 fs.length d2, .int .i64 0, .bool false] := kR.set_ 2 (.slice B2 fs.length d2)
  replace rC := rC.store (p := ⟨w.heap.size + 2, 2, none⟩) (show w.heap.size + 2 < W5.heap.size ∨ W6.heap.size ≤ w.heap.size + 2 by omega) (.slice B2 fs.length d2)
  replace G : Below w.heap.size w (W8.setCell ⟨w.heap.size + 2, 2, none⟩ (.slice B2 fs.length d2)) := Below.setCell G (show w.heap.size ≤ w.heap.size + 2 by omega) _
  have z9 : (W8.setCell ⟨w.heap.size + 2, 2, none⟩ (.slice B2 fs.length d2)).heap.size = W8.heap.size := by simp [World.setCell]
  generalize W8.setCell ⟨w.heap.size + 2, 2, none⟩ (.slice B2 fs.length d2) = W9 at kP kX kR kS rC G z9 ⊢
  replace kP := kP.far (p := ⟨w.heap.size + 2, 3, none⟩) (show w.heap.size ≠ w.heap.size + 2 by omega) (.int .i64 tn)
  replace kX := kX.far (p := ⟨w.heap.size + 2, 3, none⟩) (show w.heap.size + 1 ≠ w.heap.size + 2 by omega) (.int .i64 tn)
  replace kS := kS.far (p := ⟨w.heap.size + 2, 3, none⟩) (show w.heap.size + 3 ≠ w.heap.size + 2 by omega) (.int .i64 tn)
  replace kR : Blk (W9.setCell ⟨w.heap.size + 2, 3, none⟩ (.int .i64 tn)) (w.heap.size + 2) 34 #[.slice B0 ts.length d0, .slice B1 ks.length d1, .slice B2 fs.length d2, .int .i64 tn, .bool false] := kR.set_ 3 (.int .i64 tn)
  replace rC := rC.store (p := ⟨w.heap.size + 2, 3, none⟩) (show w.heap.size + 2 < W5.heap.size ∨ W6.heap.size ≤ w.heap.size + 2 by omega) (.int .i64 tn)
  replace G : Below w.heap.size w (W9.setCell ⟨w.heap.size + 2, 3, none⟩ (.int .i64 tn)) := Below.setCell G (show w.heap.size ≤ w.heap.size + 2 by omega) _
  have z10 : (W9.setCell ⟨w.heap.size + 2, 3, none⟩ (.int .i64 tn)).heap.size = W9.heap.size := by simp [World.setCell]
  generalize W9.setCell ⟨w.heap.size + 2, 3, none⟩ (.int .i64 tn) = W10 at kP kX kR kS rC G z10 ⊢
  replace kP := kP.far (p := ⟨w.heap.size + 2, 4, none⟩) (show w.heap.size ≠ w.heap.size + 2 by omega) (.bool st)
  replace kX := kX.far (p := ⟨w.heap.size + 2, 4, none⟩) (show w.heap.size + 1 ≠ w.heap.size + 2 by omega) (.bool st)
  replace kS := kS.far (p := ⟨w.heap.size + 2, 4, none⟩) (show w.heap.size + 3 ≠ w.heap.size + 2 by omega) (.bool st)
  replace kR : Blk (W10.setCell ⟨w.heap.size + 2, 4, none⟩ (.bool st)) (w.heap.size + 2) 34 #[.slice B0 ts.length d0, .slice B1 ks.length d1, .slice B2 fs.length d2, .int .i64 tn, .bool st] := kR.set_ 4 (.bool st)
  replace rC := rC.store (p := ⟨w.heap.size + 2, 4, none⟩) (show w.heap.size + 2 < W5.heap.size ∨ W6.heap.size ≤ w.heap.size + 2 by omega) (.bool st)
  replace G : Below w.heap.size w (W10.setCell ⟨w.heap.size + 2, 4, none⟩ (.bool st)) := Below.setCell G (show w.heap.size ≤ w.heap.size + 2 by omega) _
  have z11 : (W10.setCell ⟨w.heap.size + 2, 4, none⟩ (.bool st)).heap.size = W10.heap.size := by simp [World.setCell]
  generalize W10.setCell ⟨w.heap.size + 2, 4, none⟩ (.bool st) = W11 at kP kX kR kS rC G z11 ⊢
  replace kP := kP.far (p := ⟨w.heap.size + 3, 0, none⟩) (show w.heap.size ≠ w.heap.size + 3 by omega) (.int .i64 rp)
  replace kX := kX.far (p := ⟨w.heap.size + 3, 0, none⟩) (show w.heap.size + 1 ≠ w.heap.size + 3 by omega) (.int .i64 rp)
  replace kR := kR.far (p := ⟨w.heap.size + 3, 0, none⟩) (show w.heap.size + 2 ≠ w.heap.size + 3 by omega) (.int .i64 rp)
  replace kS : Blk (W11.setCell ⟨w.heap.size + 3, 0, none⟩ (.int .i64 rp)) (w.heap.size + 3) 65 #[.int .i64 rp, .int .i64 0] := kS.set_ 0 (.int .i64 rp)
  replace rC := rC.store (p := ⟨w.heap.size + 3, 0, none⟩) (show w.heap.size + 3 < W5.heap.size ∨ W6.heap.size ≤ w.heap.size + 3 by omega) (.int .i64 rp)
  replace G : Below w.heap.size w (W11.setCell ⟨w.heap.size + 3, 0, none⟩ (.int .i64 rp)) := Below.setCell G (show w.heap.size ≤ w.heap.size + 3 by omega) _
  have z12 : (W11.setCell ⟨w.heap.size + 3, 0, none⟩ (.int .i64 rp)).heap.size = W11.heap.size := by simp [World.setCell]
  generalize W11.setCell ⟨w.heap.size + 3, 0, none⟩ (.int .i64 rp) = W12 at kP kX kR kS rC G z12 ⊢
  replace kP := kP.far (p := ⟨w.heap.size + 3, 1, none⟩) (show w.heap.size ≠ w.heap.size + 3 by omega) (.int .i64 0)
  replace kX := kX.far (p := ⟨w.heap.size + 3, 1, none⟩) (show w.heap.size + 1 ≠ w.heap.size + 3 by omega) (.int .i64 0)
  replace kR := kR.far (p := ⟨w.heap.size + 3, 1, none⟩) (show w.heap.size + 2 ≠ w.heap.size + 3 by omega) (.int .i64 0)
  replace kS : Blk (W12.setCell ⟨w.heap.size + 3, 1, none⟩ (.int .i64 0)) (w.heap.size + 3) 65 #[.int .i64 rp, .int .i64 0] := kS.set_ 1 (.int .i64 0)
  replace rC := rC.store (p := ⟨w.heap.size + 3, 1, none⟩) (show w.heap.size + 3 < W5.heap.size ∨ W6.heap.size ≤ w.heap.size + 3 by omega) (.int .i64 0)
  replace G : Below w.heap.size w (W12.setCell ⟨w.heap.size + 3, 1, none⟩ (.int .i64 0)) := Below.setCell G (show w.heap.size ≤ w.heap.size + 3 by omega) _
  have z13 : (W12.setCell ⟨w.heap.size + 3, 1, none⟩ (.int .i64 0)).heap.size = W12.heap.size := by simp [World.setCell]
  generalize W12.setCell ⟨w.heap.size + 3, 1, none⟩ (.int .i64 0) = W13 at kP kX kR kS rC G z13 ⊢
  obtain ⟨tR, qR0, qR1, qR2, qR3, qR4⟩ := kR.q5
  obtain ⟨tS, qS0, qS1⟩ := kS.q2
  exact bodyPost_ret (v := .tuple #[.agg #[.slice B0 ts.length d0, .slice B1 ks.length d1, .slice B2 fs.length d2, .int .i64 tn, .bool st], .agg #[.int .i64 rp, .int .i64 0]]) (by simp [results, Try.results91, go_sem, qR0, qR1, qR2, qR3, qR4, qS0, qS1]) rfl ⟨B0, B1, B2, d0, d1, d2, rfl, rC.wide (by omega) (by omega), G⟩

set_option maxRecDepth 100000 in
set_option maxHeartbeats 4000000 in
theorem l6No_no (a b c d e : Int) (ts : List T7) (ks : List Int) (fs : List F2) (A0 A1 A2 : Option Addr) (c0 c1 c2 : Nat) (tn : Int) (st : Bool) (rp : Int) (w : World) (hz : poolB a b c d e ts ks fs tn = false) (ht : ts.length ≤ 1048576) (hk : ks.length ≤ 1048576) (hf : fs.length ≤ 1048576) (h : InPool w ts ks fs A0 A1 A2) :
    Calls Try.prog 91 #[.agg #[.int .i64 a, .int .i64 b, .int .i64 c, .int .i64 d, .int .i64 e], .agg #[.slice A0 ts.length c0, .slice A1 ks.length c1, .slice A2 fs.length c2, .int .i64 tn, .bool st], .int .i64 rp] w (GavePA w [] [] [] 0 false 8 0) := by
  have H := hide h
  have HZ := hide hz
  clear h hz
  go_enter Try.func91, Try.ntmps91
  go_wp2_with fail
  have G := Below.refl w.heap.size w
  have kP := Blk.new w 28 #[.int .i64 a, .int .i64 b, .int .i64 c, .int .i64 d, .int .i64 e]
  have hbs := G.size
  replace G := G.alloc (by omega) (.cells #[.int .i64 a, .int .i64 b, .int .i64 c, .int .i64 d, .int .i64 e] 28)
  have z1 : (w.alloc (.cells #[.int .i64 a, .int .i64 b, .int .i64 c, .int .i64 d, .int .i64 e] 28)).heap.size = w.heap.size + 1 := by simp
  clear hbs
  generalize w.alloc (.cells #[.int .i64 a, .int .i64 b, .int .i64 c, .int .i64 d, .int .i64 e] 28) = W1 at kP G z1 ⊢
  have kX : Blk (W1.alloc (.cells #[.slice A0 ts.length c0, .slice A1 ks.length c1, .slice A2 fs.length c2, .int .i64 tn, .bool st] 34)) (w.heap.size + 1) 34 #[.slice A0 ts.length c0, .slice A1 ks.length c1, .slice A2 fs.length c2, .int .i64 tn, .bool st] := by
    have h := Blk.new W1 34 #[.slice A0 ts.length c0, .slice A1 ks.length c1, .slice A2 fs.length c2, .int .i64 tn, .bool st]
    rw [show W1.heap.size = w.heap.size + 1 by omega] at h
    exact h
  replace kP := kP.alloc (.cells #[.slice A0 ts.length c0, .slice A1 ks.length c1, .slice A2 fs.length c2, .int .i64 tn, .bool st] 34)
  have hbs := G.size
  replace G := G.alloc (by omega) (.cells #[.slice A0 ts.length c0, .slice A1 ks.length c1, .slice A2 fs.length c2, .int .i64 tn, .bool st] 34)
  have z2 : (W1.alloc (.cells #[.slice A0 ts.length c0, .slice A1 ks.length c1, .slice A2 fs.length c2, .int .i64 tn, .bool st] 34)).heap.size = W1.heap.size + 1 := by simp
  clear hbs
  generalize W1.alloc (.cells #[.slice A0 ts.length c0, .slice A1 ks.length c1, .slice A2 fs.length c2, .int .i64 tn, .bool st] 34) = W2 at kP kX G z2 ⊢
  have kR : Blk (W2.alloc (.cells #[.slice none 0 0, .slice none 0 0, .slice none 0 0, .int .i64 0, .bool false] 34)) (w.heap.size + 2) 34 #[.slice none 0 0, .slice none 0 0, .slice none 0 0, .int .i64 0, .bool false] := by
    have h := Blk.new W2 34 #[.slice none 0 0, .slice none 0 0, .slice none 0 0, .int .i64 0, .bool false]
    rw [show W2.heap.size = w.heap.size + 2 by omega] at h
    exact h
  replace kP := kP.alloc (.cells #[.slice none 0 0, .slice none 0 0, .slice none 0 0, .int .i64 0, .bool false] 34)
  replace kX := kX.alloc (.cells #[.slice none 0 0, .slice none 0 0, .slice none 0 0, .int .i64 0, .bool false] 34)
  have hbs := G.size
  replace G := G.alloc (by omega) (.cells #[.slice none 0 0, .slice none 0 0, .slice none 0 0, .int .i64 0, .bool false] 34)
  have z3 : (W2.alloc (.cells #[.slice none 0 0, .slice none 0 0, .slice none 0 0, .int .i64 0, .bool false] 34)).heap.size = W2.heap.size + 1 := by simp
  clear hbs
  generalize W2.alloc (.cells #[.slice none 0 0, .slice none 0 0, .slice none 0 0, .int .i64 0, .bool false] 34) = W3 at kP kX kR G z3 ⊢
  have kS : Blk (W3.alloc (.cells #[.int .i64 0, .int .i64 0] 65)) (w.heap.size + 3) 65 #[.int .i64 0, .int .i64 0] := by
    have h := Blk.new W3 65 #[.int .i64 0, .int .i64 0]
    rw [show W3.heap.size = w.heap.size + 3 by omega] at h
    exact h
  replace kP := kP.alloc (.cells #[.int .i64 0, .int .i64 0] 65)
  replace kX := kX.alloc (.cells #[.int .i64 0, .int .i64 0] 65)
  replace kR := kR.alloc (.cells #[.int .i64 0, .int .i64 0] 65)
  have hbs := G.size
  replace G := G.alloc (by omega) (.cells #[.int .i64 0, .int .i64 0] 65)
  have z4 : (W3.alloc (.cells #[.int .i64 0, .int .i64 0] 65)).heap.size = W3.heap.size + 1 := by simp
  clear hbs
  generalize W3.alloc (.cells #[.int .i64 0, .int .i64 0] 65) = W4 at kP kX kR kS G z4 ⊢
  go_call (sPoolOk_v a b c d e ts ks fs A0 A1 A2 c0 c1 c2 tn st false HZ.out _ ht hk hf (H.out.below G)) as r W5 ⟨rfl, g1⟩
  have hbs := G.size
  replace kP := kP.below g1 kP.lt
  replace kX := kX.below g1 kX.lt
  replace kR := kR.below g1 kR.lt
  replace kS := kS.below g1 kS.lt
  replace G := G.trans (g1.mono (by omega))
  have z5 := g1.size
  clear g1 hbs
  obtain ⟨tP, qP0, fP0, qP1, fP1, qP2, fP2, qP3, fP3, qP4, fP4⟩ := kP.f5
  obtain ⟨tX, qX0, fX0, qX1, fX1, qX2, fX2, qX3, fX3, qX4, fX4⟩ := kX.f5
  obtain ⟨tR, qR0, fR0, qR1, fR1, qR2, fR2, qR3, fR3, qR4, fR4⟩ := kR.f5
  obtain ⟨tS, qS0, fS0, qS1, fS1⟩ := kS.f2
  go_wp2_with fail
  clear tP qP0 fP0 qP1 fP1 qP2 fP2 qP3 fP3 qP4 fP4 tX qX0 fX0 qX1 fX1 qX2 fX2 qX3 fX3 qX4 fX4 tR qR0 fR0 qR1 fR1 qR2 fR2 qR3 fR3 qR4 fR4 tS qS0 fS0 qS1 fS1
  replace kP := kP.far (p := ⟨w.heap.size + 2, 0, none⟩) (show w.heap.size ≠ w.heap.size + 2 by omega) (.slice none 0 0)
  replace kX := kX.far (p := ⟨w.heap.size + 2, 0, none⟩) (show w.heap.size + 1 ≠ w.heap.size + 2 by omega) (.slice none 0 0)
  replace kS := kS.far (p := ⟨w.heap.size + 2, 0, none⟩) (show w.heap.size + 3 ≠ w.heap.size + 2 by omega) (.slice none 0 0)
  replace kR : Blk (W5.setCell ⟨w.heap.size + 2, 0, none⟩ (.slice none 0 0)) (w.heap.size + 2) 34 #[.slice none 0 0, .slice none 0 0, .slice none 0 0, .int .i64 0, .bool false] := kR.set_ 0 (.slice none 0 0)
  replace G : Below w.heap.size w (W5.setCell ⟨w.heap.size + 2, 0, none⟩ (.slice none 0 0)) := Below.setCell G (show w.heap.size ≤ w.heap.size + 2 by omega) _
  have z6 : (W5.setCell ⟨w.heap.size + 2, 0, none⟩ (.slice none 0 0)).heap.size = W5.heap.size := by simp [World.setCell]
  generalize W5.setCell ⟨w.heap.size + 2, 0, none⟩ (.slice none 0 0) = W6 at kP kX kR kS G z6 ⊢
  replace kP := kP.far (p := ⟨w.heap.size + 2, 1, none⟩) (show w.heap.size ≠ w.heap.size + 2 by omega) (.slice none 0 0)
  replace kX := kX.far (p := ⟨w.heap.size + 2, 1, none⟩) (show w.heap.size + 1 ≠ w.heap.size + 2 by omega) (.slice none 0 0)
  replace kS := kS.far (p := ⟨w.heap.size + 2, 1, none⟩) (show w.heap.size + 3 ≠ w.heap.size + 2 by omega) (.slice none 0 0)
  replace kR : Blk (W6.setCell ⟨w.heap.size + 2, 1, none⟩ (.slice none 0 0)) (w.heap.size + 2) 34 #[.slice none 0 0, .slice none 0 0, .slice none 0 0, .int .i64 0, .bool false] := kR.set_ 1 (.slice none 0 0)
  replace G : Below w.heap.size w (W6.setCell ⟨w.heap.size + 2, 1, none⟩ (.slice none 0 0)) := Below.setCell G (show w.heap.size ≤ w.heap.size + 2 by omega) _
  have z7 : (W6.setCell ⟨w.heap.size + 2, 1, none⟩ (.slice none 0 0)).heap.size = W6.heap.size := by simp [World.setCell]
  generalize W6.setCell ⟨w.heap.size + 2, 1, none⟩ (.slice none 0 0) = W7 at kP kX kR kS G z7 ⊢
  replace kP := kP.far (p := ⟨w.heap.size + 2, 2, none⟩) (show w.heap.size ≠ w.heap.size + 2 by omega) (.slice none 0 0)
  replace kX := kX.far (p := ⟨w.heap.size + 2, 2, none⟩) (show w.heap.size + 1 ≠ w.heap.size + 2 by omega) (.slice none 0 0)
  replace kS := kS.far (p := ⟨w.heap.size + 2, 2, none⟩) (show w.heap.size + 3 ≠ w.heap.size + 2 by omega) (.slice none 0 0)
  replace kR : Blk (W7.setCell ⟨w.heap.size + 2, 2, none⟩ (.slice none 0 0)) (w.heap.size + 2) 34 #[.slice none 0 0, .slice none 0 0, .slice none 0 0, .int .i64 0, .bool false] := kR.set_ 2 (.slice none 0 0)
  replace G : Below w.heap.size w (W7.setCell ⟨w.heap.size + 2, 2, none⟩ (.slice none 0 0)) := Below.setCell G (show w.heap.size ≤ w.heap.size + 2 by omega) _
  have z8 : (W7.setCell ⟨w.heap.size + 2, 2, none⟩ (.slice none 0 0)).heap.size = W7.heap.size := by simp [World.setCell]
  generalize W7.setCell ⟨w.heap.size + 2, 2, none⟩ (.slice none 0 0) = W8 at kP kX kR kS G z8 ⊢
  replace kP := kP.far (p := ⟨w.heap.size + 2, 3, none⟩) (show w.heap.size ≠ w.heap.size + 2 by omega) (.int .i64 0)
  replace kX := kX.far (p := ⟨w.heap.size + 2, 3, none⟩) (show w.heap.size + 1 ≠ w.heap.size + 2 by omega) (.int .i64 0)
  replace kS := kS.far (p := ⟨w.heap.size + 2, 3, none⟩) (show w.heap.size + 3 ≠ w.heap.size + 2 by omega) (.int .i64 0)
  replace kR : Blk (W8.setCell ⟨w.heap.size + 2, 3, none⟩ (.int .i64 0)) (w.heap.size + 2) 34 #[.slice none 0 0, .slice none 0 0, .slice none 0 0, .int .i64 0, .bool false] := kR.set_ 3 (.int .i64 0)
  replace G : Below w.heap.size w (W8.setCell ⟨w.heap.size + 2, 3, none⟩ (.int .i64 0)) := Below.setCell G (show w.heap.size ≤ w.heap.size + 2 by omega) _
  have z9 : (W8.setCell ⟨w.heap.size + 2, 3, none⟩ (.int .i64 0)).heap.size = W8.heap.size := by simp [World.setCell]
  generalize W8.setCell ⟨w.heap.size + 2, 3, none⟩ (.int .i64 0) = W9 at kP kX kR kS G z9 ⊢
  replace kP := kP.far (p := ⟨w.heap.size + 2, 4, none⟩) (show w.heap.size ≠ w.heap.size + 2 by omega) (.bool false)
  replace kX := kX.far (p := ⟨w.heap.size + 2, 4, none⟩) (show w.heap.size + 1 ≠ w.heap.size + 2 by omega) (.bool false)
  replace kS := kS.far (p := ⟨w.heap.size + 2, 4, none⟩) (show w.heap.size + 3 ≠ w.heap.size + 2 by omega) (.bool false)
  replace kR : Blk (W9.setCell ⟨w.heap.size + 2, 4, none⟩ (.bool false)) (w.heap.size + 2) 34 #[.slice none 0 0, .slice none 0 0, .slice none 0 0, .int .i64 0, .bool false] := kR.set_ 4 (.bool false)
  replace G : Below w.heap.size w (W9.setCell ⟨w.heap.size + 2, 4, none⟩ (.bool false)) := Below.setCell G (show w.heap.size ≤ w.heap.size + 2 by omega) _
  have z10 : (W9.setCell ⟨w.heap.size + 2, 4, none⟩ (.bool false)).heap.size = W9.heap.size := by simp [World.setCell]
  generalize W9.setCell ⟨w.heap.size + 2, 4, none⟩ (.bool false) = W10 at kP kX kR kS G z10 ⊢
  replace kP := kP.far (p := ⟨w.heap.size + 3, 0, none⟩) (show w.heap.size ≠ w.heap.size + 3 by omega) (.int .i64 8)
  replace kX := kX.far (p := ⟨w.heap.size + 3, 0, none⟩) (show w.heap.size + 1 ≠ w.heap.size + 3 by omega) (.int .i64 8)
  replace kR := kR.far (p := ⟨w.heap.size + 3, 0, none⟩) (show w.heap.size + 2 ≠ w.heap.size + 3 by omega) (.int .i64 8)
  replace kS : Blk (W10.setCell ⟨w.heap.size + 3, 0, none⟩ (.int .i64 8)) (w.heap.size + 3) 65 #[.int .i64 8, .int .i64 0] := kS.set_ 0 (.int .i64 8)
  replace G : Below w.heap.size w (W10.setCell ⟨w.heap.size + 3, 0, none⟩ (.int .i64 8)) := Below.setCell G (show w.heap.size ≤ w.heap.size + 3 by omega) _
  have z11 : (W10.setCell ⟨w.heap.size + 3, 0, none⟩ (.int .i64 8)).heap.size = W10.heap.size := by simp [World.setCell]
  generalize W10.setCell ⟨w.heap.size + 3, 0, none⟩ (.int .i64 8) = W11 at kP kX kR kS G z11 ⊢
  replace kP := kP.far (p := ⟨w.heap.size + 3, 1, none⟩) (show w.heap.size ≠ w.heap.size + 3 by omega) (.int .i64 0)
  replace kX := kX.far (p := ⟨w.heap.size + 3, 1, none⟩) (show w.heap.size + 1 ≠ w.heap.size + 3 by omega) (.int .i64 0)
  replace kR := kR.far (p := ⟨w.heap.size + 3, 1, none⟩) (show w.heap.size + 2 ≠ w.heap.size + 3 by omega) (.int .i64 0)
  replace kS : Blk (W11.setCell ⟨w.heap.size + 3, 1, none⟩ (.int .i64 0)) (w.heap.size + 3) 65 #[.int .i64 8, .int .i64 0] := kS.set_ 1 (.int .i64 0)
  replace G : Below w.heap.size w (W11.setCell ⟨w.heap.size + 3, 1, none⟩ (.int .i64 0)) := Below.setCell G (show w.heap.size ≤ w.heap.size + 3 by omega) _
  have z12 : (W11.setCell ⟨w.heap.size + 3, 1, none⟩ (.int .i64 0)).heap.size = W11.heap.size := by simp [World.setCell]
  generalize W11.setCell ⟨w.heap.size + 3, 1, none⟩ (.int .i64 0) = W12 at kP kX kR kS G z12 ⊢
  obtain ⟨tR, qR0, qR1, qR2, qR3, qR4⟩ := kR.q5
  obtain ⟨tS, qS0, qS1⟩ := kS.q2
  exact bodyPost_ret (v := .tuple #[.agg #[.slice none 0 0, .slice none 0 0, .slice none 0 0, .int .i64 0, .bool false], .agg #[.int .i64 8, .int .i64 0]]) (by simp [results, Try.results91, go_sem, qR0, qR1, qR2, qR3, qR4, qS0, qS1]) rfl ⟨none, none, none, 0, 0, 0, rfl, ⟨OwnR.nil_ _ _ _ _ _, OwnR.nil_ _ _ _ _ _, OwnR.nil_ _ _ _ _ _⟩, G⟩

set_option maxRecDepth 100000 in
set_option maxHeartbeats 4000000 in
theorem l6Done_yes (a b c d e : Int) (ts : List T7) (ks : List Int) (fs : List F2) (A0 A1 A2 : Option Addr) (c0 c1 c2 : Nat) (tn : Int) (st : Bool) (tsx : List T7) (ksx : List Int) (fsx : List F2) (A0x A1x A2x : Option Addr) (c0x c1x c2x : Nat) (tnx : Int) (stx : Bool) (rp ou : Int) (w : World) (ho : poolB a b c d e ts ks fs tn = true) (hz : poolB a b c d e tsx ksx fsx tnx = true) (ht : ts.length ≤ 1048576) (hk : ks.length ≤ 1048576) (hf : fs.length ≤ 1048576) (htx : tsx.length ≤ 1048576) (hkx : ksx.length ≤ 1048576) (hfx : fsx.length ≤ 1048576) (h : InPool w ts ks fs A0 A1 A2) (hx : InPool w tsx ksx fsx A0x A1x A2x) :
    Calls Try.prog 93 #[.agg #[.int .i64 a, .int .i64 b, .int .i64 c, .int .i64 d, .int .i64 e], .agg #[.slice A0 ts.length c0, .slice A1 ks.length c1, .slice A2 fs.length c2, .int .i64 tn, .bool st], .agg #[.slice A0x tsx.length c0x, .slice A1x ksx.length c1x, .slice A2x fsx.length c2x, .int .i64 tnx, .bool stx], .int .i64 rp, .int .i64 ou] w (fun r w' => r = .returned (.tuple #[.agg #[.slice A0x tsx.length c0x, .slice A1x ksx.length c1x, .slice A2x fsx.length c2x, .int .i64 tnx, .bool stx], .agg #[.int .i64 rp, .int .i64 ou]]) ∧ Below w.heap.size w w') := by
  have H := hide h
  have HX := hide hx
  have HZ := hide (⟨ho, hz⟩ : _ ∧ _)
  clear h hx ho hz
  go_enter Try.func93, Try.ntmps93
  go_wp2_with fail
  have G := Below.refl w.heap.size w
  have kP := Blk.new w 28 #[.int .i64 a, .int .i64 b, .int .i64 c, .int .i64 d, .int .i64 e]
  have hbs := G.size
  replace G := G.alloc (by omega) (.cells #[.int .i64 a, .int .i64 b, .int .i64 c, .int .i64 d, .int .i64 e] 28)
  have z1 : (w.alloc (.cells #[.int .i64 a, .int .i64 b, .int .i64 c, .int .i64 d, .int .i64 e] 28)).heap.size = w.heap.size + 1 := by simp
  clear hbs
  generalize w.alloc (.cells #[.int .i64 a, .int .i64 b, .int .i64 c, .int .i64 d, .int .i64 e] 28) = W1 at kP G z1 ⊢
  have kO : Blk (W1.alloc (.cells #[.slice A0 ts.length c0, .slice A1 ks.length c1, .slice A2 fs.length c2, .int .i64 tn, .bool st] 34)) (w.heap.size + 1) 34 #[.slice A0 ts.length c0, .slice A1 ks.length c1, .slice A2 fs.length c2, .int .i64 tn, .bool st] := by
    have h := Blk.new W1 34 #[.slice A0 ts.length c0, .slice A1 ks.length c1, .slice A2 fs.length c2, .int .i64 tn, .bool st]
    rw [show W1.heap.size = w.heap.size + 1 by omega] at h
    exact h
  replace kP := kP.alloc (.cells #[.slice A0 ts.length c0, .slice A1 ks.length c1, .slice A2 fs.length c2, .int .i64 tn, .bool st] 34)
  have hbs := G.size
  replace G := G.alloc (by omega) (.cells #[.slice A0 ts.length c0, .slice A1 ks.length c1, .slice A2 fs.length c2, .int .i64 tn, .bool st] 34)
  have z2 : (W1.alloc (.cells #[.slice A0 ts.length c0, .slice A1 ks.length c1, .slice A2 fs.length c2, .int .i64 tn, .bool st] 34)).heap.size = W1.heap.size + 1 := by simp
  clear hbs
  generalize W1.alloc (.cells #[.slice A0 ts.length c0, .slice A1 ks.length c1, .slice A2 fs.length c2, .int .i64 tn, .bool st] 34) = W2 at kP kO G z2 ⊢
  have kX : Blk (W2.alloc (.cells #[.slice A0x tsx.length c0x, .slice A1x ksx.length c1x, .slice A2x fsx.length c2x, .int .i64 tnx, .bool stx] 34)) (w.heap.size + 2) 34 #[.slice A0x tsx.length c0x, .slice A1x ksx.length c1x, .slice A2x fsx.length c2x, .int .i64 tnx, .bool stx] := by
    have h := Blk.new W2 34 #[.slice A0x tsx.length c0x, .slice A1x ksx.length c1x, .slice A2x fsx.length c2x, .int .i64 tnx, .bool stx]
    rw [show W2.heap.size = w.heap.size + 2 by omega] at h
    exact h
  replace kP := kP.alloc (.cells #[.slice A0x tsx.length c0x, .slice A1x ksx.length c1x, .slice A2x fsx.length c2x, .int .i64 tnx, .bool stx] 34)
  replace kO := kO.alloc (.cells #[.slice A0x tsx.length c0x, .slice A1x ksx.length c1x, .slice A2x fsx.length c2x, .int .i64 tnx, .bool stx] 34)
  have hbs := G.size
  replace G := G.alloc (by omega) (.cells #[.slice A0x tsx.length c0x, .slice A1x ksx.length c1x, .slice A2x fsx.length c2x, .int .i64 tnx, .bool stx] 34)
  have z3 : (W2.alloc (.cells #[.slice A0x tsx.length c0x, .slice A1x ksx.length c1x, .slice A2x fsx.length c2x, .int .i64 tnx, .bool stx] 34)).heap.size = W2.heap.size + 1 := by simp
  clear hbs
  generalize W2.alloc (.cells #[.slice A0x tsx.length c0x, .slice A1x ksx.length c1x, .slice A2x fsx.length c2x, .int .i64 tnx, .bool stx] 34) = W3 at kP kO kX G z3 ⊢
  have kR : Blk (W3.alloc (.cells #[.slice none 0 0, .slice none 0 0, .slice none 0 0, .int .i64 0, .bool false] 34)) (w.heap.size + 3) 34 #[.slice none 0 0, .slice none 0 0, .slice none 0 0, .int .i64 0, .bool false] := by
    have h := Blk.new W3 34 #[.slice none 0 0, .slice none 0 0, .slice none 0 0, .int .i64 0, .bool false]
    rw [show W3.heap.size = w.heap.size + 3 by omega] at h
    exact h
  replace kP := kP.alloc (.cells #[.slice none 0 0, .slice none 0 0, .slice none 0 0, .int .i64 0, .bool false] 34)
  replace kO := kO.alloc (.cells #[.slice none 0 0, .slice none 0 0, .slice none 0 0, .int .i64 0, .bool false] 34)
  replace kX := kX.alloc (.cells #[.slice none 0 0, .slice none 0 0, .slice none 0 0, .int .i64 0, .bool false] 34)
  have hbs := G.size
  replace G := G.alloc (by omega) (.cells #[.slice none 0 0, .slice none 0 0, .slice none 0 0, .int .i64 0, .bool false] 34)
  have z4 : (W3.alloc (.cells #[.slice none 0 0, .slice none 0 0, .slice none 0 0, .int .i64 0, .bool false] 34)).heap.size = W3.heap.size + 1 := by simp
  clear hbs
  generalize W3.alloc (.cells #[.slice none 0 0, .slice none 0 0, .slice none 0 0, .int .i64 0, .bool false] 34) = W4 at kP kO kX kR G z4 ⊢
  have kS : Blk (W4.alloc (.cells #[.int .i64 0, .int .i64 0] 65)) (w.heap.size + 4) 65 #[.int .i64 0, .int .i64 0] := by
    have h := Blk.new W4 65 #[.int .i64 0, .int .i64 0]
    rw [show W4.heap.size = w.heap.size + 4 by omega] at h
    exact h
  replace kP := kP.alloc (.cells #[.int .i64 0, .int .i64 0] 65)
  replace kO := kO.alloc (.cells #[.int .i64 0, .int .i64 0] 65)
  replace kX := kX.alloc (.cells #[.int .i64 0, .int .i64 0] 65)
  replace kR := kR.alloc (.cells #[.int .i64 0, .int .i64 0] 65)
  have hbs := G.size
  replace G := G.alloc (by omega) (.cells #[.int .i64 0, .int .i64 0] 65)
  have z5 : (W4.alloc (.cells #[.int .i64 0, .int .i64 0] 65)).heap.size = W4.heap.size + 1 := by simp
  clear hbs
  generalize W4.alloc (.cells #[.int .i64 0, .int .i64 0] 65) = W5 at kP kO kX kR kS G z5 ⊢
  go_call (sPoolOk_v a b c d e tsx ksx fsx A0x A1x A2x c0x c1x c2x tnx stx true HZ.out.2 _ htx hkx hfx (HX.out.below G)) as r W6 ⟨rfl, g1⟩
  have hbs := G.size
  replace kP := kP.below g1 kP.lt
  replace kO := kO.below g1 kO.lt
  replace kX := kX.below g1 kX.lt
  replace kR := kR.below g1 kR.lt
  replace kS := kS.below g1 kS.lt
  replace G := G.trans (g1.mono (by omega))
  have z6 := g1.size
  clear g1 hbs
  obtain ⟨tP, qP0, fP0, qP1, fP1, qP2, fP2, qP3, fP3, qP4, fP4⟩ := kP.f5
  obtain ⟨tO, qO0, fO0, qO1, fO1, qO2, fO2, qO3, fO3, qO4, fO4⟩ := kO.f5
  obtain ⟨tX, qX0, fX0, qX1, fX1, qX2, fX2, qX3, fX3, qX4, fX4⟩ := kX.f5
  obtain ⟨tR, qR0, fR0, qR1, fR1, qR2, fR2, qR3, fR3, qR4, fR4⟩ := kR.f5
  obtain ⟨tS, qS0, fS0, qS1, fS1⟩ := kS.f2
  go_wp2_with fail
  clear tP qP0 fP0 qP1 fP1 qP2 fP2 qP3 fP3 qP4 fP4 tO qO0 fO0 qO1 fO1 qO2 fO2 qO3 fO3 qO4 fO4 tX qX0 fX0 qX1 fX1 qX2 fX2 qX3 fX3 qX4 fX4 tR qR0 fR0 qR1 fR1 qR2 fR2 qR3 fR3 qR4 fR4 tS qS0 fS0 qS1 fS1
  replace kP := kP.far (p := ⟨w.heap.size + 3, 0, none⟩) (show w.heap.size ≠ w.heap.size + 3 by omega) (.slice A0x tsx.length c0x)
  replace kO := kO.far (p := ⟨w.heap.size + 3, 0, none⟩) (show w.heap.size + 1 ≠ w.heap.size + 3 by omega) (.slice A0x tsx.length c0x)
  replace kX := kX.far (p := ⟨w.heap.size + 3, 0, none⟩) (show w.heap.size + 2 ≠ w.heap.size + 3 by omega) (.slice A0x tsx.length c0x)
  replace kS := kS.far (p := ⟨w.heap.size + 3, 0, none⟩) (show w.heap.size + 4 ≠ w.heap.size + 3 by omega) (.slice A0x tsx.length c0x)
  replace kR : Blk (W6.setCell ⟨w.heap.size + 3, 0, none⟩ (.slice A0x tsx.length c0x)) (w.heap.size + 3) 34 #[.slice A0x tsx.length c0x, .slice none 0 0, .slice none 0 0, .int .i64 0, .bool false] := kR.set_ 0 (.slice A0x tsx.length c0x)
  replace G : Below w.heap.size w (W6.setCell ⟨w.heap.size + 3, 0, none⟩ (.slice A0x tsx.length c0x)) := Below.setCell G (show w.heap.size ≤ w.heap.size + 3 by omega) _
  have z7 : (W6.setCell ⟨w.heap.size + 3, 0, none⟩ (.slice A0x tsx.length c0x)).heap.size = W6.heap.size := by simp [World.setCell]
  generalize W6.setCell ⟨w.heap.size + 3, 0, none⟩ (.slice A0x tsx.length c0x) = W7 at kP kO kX kR kS G z7 ⊢
  replace kP := kP.far (p := ⟨w.heap.size + 3, 1, none⟩) (show w.heap.size ≠ w.heap.size + 3 by omega) (.slice A1x ksx.length c1x)
  replace kO := kO.far (p := ⟨w.heap.size + 3, 1, none⟩) (show w.heap.size + 1 ≠ w.heap.size + 3 by omega) (.slice A1x ksx.length c1x)
  replace kX := kX.far (p := ⟨w.heap.size + 3, 1, none⟩) (show w.heap.size + 2 ≠ w.heap.size + 3 by omega) (.slice A1x ksx.length c1x)
  replace kS := kS.far (p := ⟨w.heap.size + 3, 1, none⟩) (show w.heap.size + 4 ≠ w.heap.size + 3 by omega) (.slice A1x ksx.length c1x)
  replace kR : Blk (W7.setCell ⟨w.heap.size + 3, 1, none⟩ (.slice A1x ksx.length c1x)) (w.heap.size + 3) 34 #[.slice A0x tsx.length c0x, .slice A1x ksx.length c1x, .slice none 0 0, .int .i64 0, .bool false] := kR.set_ 1 (.slice A1x ksx.length c1x)
  replace G : Below w.heap.size w (W7.setCell ⟨w.heap.size + 3, 1, none⟩ (.slice A1x ksx.length c1x)) := Below.setCell G (show w.heap.size ≤ w.heap.size + 3 by omega) _
  have z8 : (W7.setCell ⟨w.heap.size + 3, 1, none⟩ (.slice A1x ksx.length c1x)).heap.size = W7.heap.size := by simp [World.setCell]
  generalize W7.setCell ⟨w.heap.size + 3, 1, none⟩ (.slice A1x ksx.length c1x) = W8 at kP kO kX kR kS G z8 ⊢
  replace kP := kP.far (p := ⟨w.heap.size + 3, 2, none⟩) (show w.heap.size ≠ w.heap.size + 3 by omega) (.slice A2x fsx.length c2x)
  replace kO := kO.far (p := ⟨w.heap.size + 3, 2, none⟩) (show w.heap.size + 1 ≠ w.heap.size + 3 by omega) (.slice A2x fsx.length c2x)
  replace kX := kX.far (p := ⟨w.heap.size + 3, 2, none⟩) (show w.heap.size + 2 ≠ w.heap.size + 3 by omega) (.slice A2x fsx.length c2x)
  replace kS := kS.far (p := ⟨w.heap.size + 3, 2, none⟩) (show w.heap.size + 4 ≠ w.heap.size + 3 by omega) (.slice A2x fsx.length c2x)
  replace kR : Blk (W8.setCell ⟨w.heap.size + 3, 2, none⟩ (.slice A2x fsx.length c2x)) (w.heap.size + 3) 34 #[.slice A0x tsx.length c0x, .slice A1x ksx.length c1x, .slice A2x fsx.length c2x, .int .i64 0, .bool false] := kR.set_ 2 (.slice A2x fsx.length c2x)
  replace G : Below w.heap.size w (W8.setCell ⟨w.heap.size + 3, 2, none⟩ (.slice A2x fsx.length c2x)) := Below.setCell G (show w.heap.size ≤ w.heap.size + 3 by omega) _
  have z9 : (W8.setCell ⟨w.heap.size + 3, 2, none⟩ (.slice A2x fsx.length c2x)).heap.size = W8.heap.size := by simp [World.setCell]
  generalize W8.setCell ⟨w.heap.size + 3, 2, none⟩ (.slice A2x fsx.length c2x) = W9 at kP kO kX kR kS G z9 ⊢
  replace kP := kP.far (p := ⟨w.heap.size + 3, 3, none⟩) (show w.heap.size ≠ w.heap.size + 3 by omega) (.int .i64 tnx)
  replace kO := kO.far (p := ⟨w.heap.size + 3, 3, none⟩) (show w.heap.size + 1 ≠ w.heap.size + 3 by omega) (.int .i64 tnx)
  replace kX := kX.far (p := ⟨w.heap.size + 3, 3, none⟩) (show w.heap.size + 2 ≠ w.heap.size + 3 by omega) (.int .i64 tnx)
  replace kS := kS.far (p := ⟨w.heap.size + 3, 3, none⟩) (show w.heap.size + 4 ≠ w.heap.size + 3 by omega) (.int .i64 tnx)
  replace kR : Blk (W9.setCell ⟨w.heap.size + 3, 3, none⟩ (.int .i64 tnx)) (w.heap.size + 3) 34 #[.slice A0x tsx.length c0x, .slice A1x ksx.length c1x, .slice A2x fsx.length c2x, .int .i64 tnx, .bool false] := kR.set_ 3 (.int .i64 tnx)
  replace G : Below w.heap.size w (W9.setCell ⟨w.heap.size + 3, 3, none⟩ (.int .i64 tnx)) := Below.setCell G (show w.heap.size ≤ w.heap.size + 3 by omega) _
  have z10 : (W9.setCell ⟨w.heap.size + 3, 3, none⟩ (.int .i64 tnx)).heap.size = W9.heap.size := by simp [World.setCell]
  generalize W9.setCell ⟨w.heap.size + 3, 3, none⟩ (.int .i64 tnx) = W10 at kP kO kX kR kS G z10 ⊢
  replace kP := kP.far (p := ⟨w.heap.size + 3, 4, none⟩) (show w.heap.size ≠ w.heap.size + 3 by omega) (.bool stx)
  replace kO := kO.far (p := ⟨w.heap.size + 3, 4, none⟩) (show w.heap.size + 1 ≠ w.heap.size + 3 by omega) (.bool stx)
  replace kX := kX.far (p := ⟨w.heap.size + 3, 4, none⟩) (show w.heap.size + 2 ≠ w.heap.size + 3 by omega) (.bool stx)
  replace kS := kS.far (p := ⟨w.heap.size + 3, 4, none⟩) (show w.heap.size + 4 ≠ w.heap.size + 3 by omega) (.bool stx)
  replace kR : Blk (W10.setCell ⟨w.heap.size + 3, 4, none⟩ (.bool stx)) (w.heap.size + 3) 34 #[.slice A0x tsx.length c0x, .slice A1x ksx.length c1x, .slice A2x fsx.length c2x, .int .i64 tnx, .bool stx] := kR.set_ 4 (.bool stx)
  replace G : Below w.heap.size w (W10.setCell ⟨w.heap.size + 3, 4, none⟩ (.bool stx)) := Below.setCell G (show w.heap.size ≤ w.heap.size + 3 by omega) _
  have z11 : (W10.setCell ⟨w.heap.size + 3, 4, none⟩ (.bool stx)).heap.size = W10.heap.size := by simp [World.setCell]
  generalize W10.setCell ⟨w.heap.size + 3, 4, none⟩ (.bool stx) = W11 at kP kO kX kR kS G z11 ⊢
  replace kP := kP.far (p := ⟨w.heap.size + 4, 0, none⟩) (show w.heap.size ≠ w.heap.size + 4 by omega) (.int .i64 rp)
  replace kO := kO.far (p := ⟨w.heap.size + 4, 0, none⟩) (show w.heap.size + 1 ≠ w.heap.size + 4 by omega) (.int .i64 rp)
  replace kX := kX.far (p := ⟨w.heap.size + 4, 0, none⟩) (show w.heap.size + 2 ≠ w.heap.size + 4 by omega) (.int .i64 rp)
  replace kR := kR.far (p := ⟨w.heap.size + 4, 0, none⟩) (show w.heap.size + 3 ≠ w.heap.size + 4 by omega) (.int .i64 rp)
  replace kS : Blk (W11.setCell ⟨w.heap.size + 4, 0, none⟩ (.int .i64 rp)) (w.heap.size + 4) 65 #[.int .i64 rp, .int .i64 0] := kS.set_ 0 (.int .i64 rp)
  replace G : Below w.heap.size w (W11.setCell ⟨w.heap.size + 4, 0, none⟩ (.int .i64 rp)) := Below.setCell G (show w.heap.size ≤ w.heap.size + 4 by omega) _
  have z12 : (W11.setCell ⟨w.heap.size + 4, 0, none⟩ (.int .i64 rp)).heap.size = W11.heap.size := by simp [World.setCell]
  generalize W11.setCell ⟨w.heap.size + 4, 0, none⟩ (.int .i64 rp) = W12 at kP kO kX kR kS G z12 ⊢
  replace kP := kP.far (p := ⟨w.heap.size + 4, 1, none⟩) (show w.heap.size ≠ w.heap.size + 4 by omega) (.int .i64 ou)
  replace kO := kO.far (p := ⟨w.heap.size + 4, 1, none⟩) (show w.heap.size + 1 ≠ w.heap.size + 4 by omega) (.int .i64 ou)
  replace kX := kX.far (p := ⟨w.heap.size + 4, 1, none⟩) (show w.heap.size + 2 ≠ w.heap.size + 4 by omega) (.int .i64 ou)
  replace kR := kR.far (p := ⟨w.heap.size + 4, 1, none⟩) (show w.heap.size + 3 ≠ w.heap.size + 4 by omega) (.int .i64 ou)
  replace kS : Blk (W12.setCell ⟨w.heap.size + 4, 1, none⟩ (.int .i64 ou)) (w.heap.size + 4) 65 #[.int .i64 rp, .int .i64 ou] := kS.set_ 1 (.int .i64 ou)
  replace G : Below w.heap.size w (W12.setCell ⟨w.heap.size + 4, 1, none⟩ (.int .i64 ou)) := Below.setCell G (show w.heap.size ≤ w.heap.size + 4 by omega) _
  have z13 : (W12.setCell ⟨w.heap.size + 4, 1, none⟩ (.int .i64 ou)).heap.size = W12.heap.size := by simp [World.setCell]
  generalize W12.setCell ⟨w.heap.size + 4, 1, none⟩ (.int .i64 ou) = W13 at kP kO kX kR kS G z13 ⊢
  obtain ⟨tR, qR0, qR1, qR2, qR3, qR4⟩ := kR.q5
  obtain ⟨tS, qS0, qS1⟩ := kS.q2
  exact bodyPost_ret (v := .tuple #[.agg #[.slice A0x tsx.length c0x, .slice A1x ksx.length c1x, .slice A2x fsx.length c2x, .int .i64 tnx, .bool stx], .agg #[.int .i64 rp, .int .i64 ou]]) (by simp [results, Try.results93, go_sem, qR0, qR1, qR2, qR3, qR4, qS0, qS1]) rfl ⟨rfl, G⟩

set_option maxRecDepth 100000 in
set_option maxHeartbeats 4000000 in
theorem l6Done_full (a b c d e : Int) (ts : List T7) (ks : List Int) (fs : List F2) (A0 A1 A2 : Option Addr) (c0 c1 c2 : Nat) (tn : Int) (st : Bool) (tsx : List T7) (ksx : List Int) (fsx : List F2) (A0x A1x A2x : Option Addr) (c0x c1x c2x : Nat) (tnx : Int) (stx : Bool) (rp ou : Int) (w : World) (ho : poolB a b c d e ts ks fs tn = true) (hz : poolB a b c d e tsx ksx fsx tnx = false) (ht : ts.length ≤ 1048576) (hk : ks.length ≤ 1048576) (hf : fs.length ≤ 1048576) (htx : tsx.length ≤ 1048576) (hkx : ksx.length ≤ 1048576) (hfx : fsx.length ≤ 1048576) (h : InPool w ts ks fs A0 A1 A2) (hx : InPool w tsx ksx fsx A0x A1x A2x) :
    Calls Try.prog 93 #[.agg #[.int .i64 a, .int .i64 b, .int .i64 c, .int .i64 d, .int .i64 e], .agg #[.slice A0 ts.length c0, .slice A1 ks.length c1, .slice A2 fs.length c2, .int .i64 tn, .bool st], .agg #[.slice A0x tsx.length c0x, .slice A1x ksx.length c1x, .slice A2x fsx.length c2x, .int .i64 tnx, .bool stx], .int .i64 rp, .int .i64 ou] w (GavePA w ts ks fs tn st 4 0) := by
  have H := hide h
  have HX := hide hx
  have HZ := hide (⟨ho, hz⟩ : _ ∧ _)
  clear h hx ho hz
  go_enter Try.func93, Try.ntmps93
  go_wp2_with fail
  have G := Below.refl w.heap.size w
  have kP := Blk.new w 28 #[.int .i64 a, .int .i64 b, .int .i64 c, .int .i64 d, .int .i64 e]
  have hbs := G.size
  replace G := G.alloc (by omega) (.cells #[.int .i64 a, .int .i64 b, .int .i64 c, .int .i64 d, .int .i64 e] 28)
  have z1 : (w.alloc (.cells #[.int .i64 a, .int .i64 b, .int .i64 c, .int .i64 d, .int .i64 e] 28)).heap.size = w.heap.size + 1 := by simp
  clear hbs
  generalize w.alloc (.cells #[.int .i64 a, .int .i64 b, .int .i64 c, .int .i64 d, .int .i64 e] 28) = W1 at kP G z1 ⊢
  have kO : Blk (W1.alloc (.cells #[.slice A0 ts.length c0, .slice A1 ks.length c1, .slice A2 fs.length c2, .int .i64 tn, .bool st] 34)) (w.heap.size + 1) 34 #[.slice A0 ts.length c0, .slice A1 ks.length c1, .slice A2 fs.length c2, .int .i64 tn, .bool st] := by
    have h := Blk.new W1 34 #[.slice A0 ts.length c0, .slice A1 ks.length c1, .slice A2 fs.length c2, .int .i64 tn, .bool st]
    rw [show W1.heap.size = w.heap.size + 1 by omega] at h
    exact h
  replace kP := kP.alloc (.cells #[.slice A0 ts.length c0, .slice A1 ks.length c1, .slice A2 fs.length c2, .int .i64 tn, .bool st] 34)
  have hbs := G.size
  replace G := G.alloc (by omega) (.cells #[.slice A0 ts.length c0, .slice A1 ks.length c1, .slice A2 fs.length c2, .int .i64 tn, .bool st] 34)
  have z2 : (W1.alloc (.cells #[.slice A0 ts.length c0, .slice A1 ks.length c1, .slice A2 fs.length c2, .int .i64 tn, .bool st] 34)).heap.size = W1.heap.size + 1 := by simp
  clear hbs
  generalize W1.alloc (.cells #[.slice A0 ts.length c0, .slice A1 ks.length c1, .slice A2 fs.length c2, .int .i64 tn, .bool st] 34) = W2 at kP kO G z2 ⊢
  have kX : Blk (W2.alloc (.cells #[.slice A0x tsx.length c0x, .slice A1x ksx.length c1x, .slice A2x fsx.length c2x, .int .i64 tnx, .bool stx] 34)) (w.heap.size + 2) 34 #[.slice A0x tsx.length c0x, .slice A1x ksx.length c1x, .slice A2x fsx.length c2x, .int .i64 tnx, .bool stx] := by
    have h := Blk.new W2 34 #[.slice A0x tsx.length c0x, .slice A1x ksx.length c1x, .slice A2x fsx.length c2x, .int .i64 tnx, .bool stx]
    rw [show W2.heap.size = w.heap.size + 2 by omega] at h
    exact h
  replace kP := kP.alloc (.cells #[.slice A0x tsx.length c0x, .slice A1x ksx.length c1x, .slice A2x fsx.length c2x, .int .i64 tnx, .bool stx] 34)
  replace kO := kO.alloc (.cells #[.slice A0x tsx.length c0x, .slice A1x ksx.length c1x, .slice A2x fsx.length c2x, .int .i64 tnx, .bool stx] 34)
  have hbs := G.size
  replace G := G.alloc (by omega) (.cells #[.slice A0x tsx.length c0x, .slice A1x ksx.length c1x, .slice A2x fsx.length c2x, .int .i64 tnx, .bool stx] 34)
  have z3 : (W2.alloc (.cells #[.slice A0x tsx.length c0x, .slice A1x ksx.length c1x, .slice A2x fsx.length c2x, .int .i64 tnx, .bool stx] 34)).heap.size = W2.heap.size + 1 := by simp
  clear hbs
  generalize W2.alloc (.cells #[.slice A0x tsx.length c0x, .slice A1x ksx.length c1x, .slice A2x fsx.length c2x, .int .i64 tnx, .bool stx] 34) = W3 at kP kO kX G z3 ⊢
  have kR : Blk (W3.alloc (.cells #[.slice none 0 0, .slice none 0 0, .slice none 0 0, .int .i64 0, .bool false] 34)) (w.heap.size + 3) 34 #[.slice none 0 0, .slice none 0 0, .slice none 0 0, .int .i64 0, .bool false] := by
    have h := Blk.new W3 34 #[.slice none 0 0, .slice none 0 0, .slice none 0 0, .int .i64 0, .bool false]
    rw [show W3.heap.size = w.heap.size + 3 by omega] at h
    exact h
  replace kP := kP.alloc (.cells #[.slice none 0 0, .slice none 0 0, .slice none 0 0, .int .i64 0, .bool false] 34)
  replace kO := kO.alloc (.cells #[.slice none 0 0, .slice none 0 0, .slice none 0 0, .int .i64 0, .bool false] 34)
  replace kX := kX.alloc (.cells #[.slice none 0 0, .slice none 0 0, .slice none 0 0, .int .i64 0, .bool false] 34)
  have hbs := G.size
  replace G := G.alloc (by omega) (.cells #[.slice none 0 0, .slice none 0 0, .slice none 0 0, .int .i64 0, .bool false] 34)
  have z4 : (W3.alloc (.cells #[.slice none 0 0, .slice none 0 0, .slice none 0 0, .int .i64 0, .bool false] 34)).heap.size = W3.heap.size + 1 := by simp
  clear hbs
  generalize W3.alloc (.cells #[.slice none 0 0, .slice none 0 0, .slice none 0 0, .int .i64 0, .bool false] 34) = W4 at kP kO kX kR G z4 ⊢
  have kS : Blk (W4.alloc (.cells #[.int .i64 0, .int .i64 0] 65)) (w.heap.size + 4) 65 #[.int .i64 0, .int .i64 0] := by
    have h := Blk.new W4 65 #[.int .i64 0, .int .i64 0]
    rw [show W4.heap.size = w.heap.size + 4 by omega] at h
    exact h
  replace kP := kP.alloc (.cells #[.int .i64 0, .int .i64 0] 65)
  replace kO := kO.alloc (.cells #[.int .i64 0, .int .i64 0] 65)
  replace kX := kX.alloc (.cells #[.int .i64 0, .int .i64 0] 65)
  replace kR := kR.alloc (.cells #[.int .i64 0, .int .i64 0] 65)
  have hbs := G.size
  replace G := G.alloc (by omega) (.cells #[.int .i64 0, .int .i64 0] 65)
  have z5 : (W4.alloc (.cells #[.int .i64 0, .int .i64 0] 65)).heap.size = W4.heap.size + 1 := by simp
  clear hbs
  generalize W4.alloc (.cells #[.int .i64 0, .int .i64 0] 65) = W5 at kP kO kX kR kS G z5 ⊢
  go_call (sPoolOk_v a b c d e tsx ksx fsx A0x A1x A2x c0x c1x c2x tnx stx false HZ.out.2 _ htx hkx hfx (HX.out.below G)) as r W6 ⟨rfl, g1⟩
  have hbs := G.size
  replace kP := kP.below g1 kP.lt
  replace kO := kO.below g1 kO.lt
  replace kX := kX.below g1 kX.lt
  replace kR := kR.below g1 kR.lt
  replace kS := kS.below g1 kS.lt
  replace G := G.trans (g1.mono (by omega))
  have z6 := g1.size
  clear g1 hbs
  obtain ⟨tP, qP0, fP0, qP1, fP1, qP2, fP2, qP3, fP3, qP4, fP4⟩ := kP.f5
  obtain ⟨tO, qO0, fO0, qO1, fO1, qO2, fO2, qO3, fO3, qO4, fO4⟩ := kO.f5
  obtain ⟨tX, qX0, fX0, qX1, fX1, qX2, fX2, qX3, fX3, qX4, fX4⟩ := kX.f5
  obtain ⟨tR, qR0, fR0, qR1, fR1, qR2, fR2, qR3, fR3, qR4, fR4⟩ := kR.f5
  obtain ⟨tS, qS0, fS0, qS1, fS1⟩ := kS.f2
  go_wp2_with fail
  go_call (l6No_yes a b c d e ts ks fs A0 A1 A2 c0 c1 c2 tn st 4 _ HZ.out.1 ht hk hf (H.out.below G)) as r W7 ⟨B0, B1, B2, d0, d1, d2, rfl, own, g1⟩
  clear tP qP0 fP0 qP1 fP1 qP2 fP2 qP3 fP3 qP4 fP4 tO qO0 fO0 qO1 fO1 qO2 fO2 qO3 fO3 qO4 fO4 tX qX0 fX0 qX1 fX1 qX2 fX2 qX3 fX3 qX4 fX4 tR qR0 fR0 qR1 fR1 qR2 fR2 qR3 fR3 qR4 fR4 tS qS0 fS0 qS1 fS1
  have hbs := G.size
  replace kP := kP.below g1 kP.lt
  replace kO := kO.below g1 kO.lt
  replace kX := kX.below g1 kX.lt
  replace kR := kR.below g1 kR.lt
  replace kS := kS.below g1 kS.lt
  replace G := G.trans (g1.mono (by omega))
  have z7 := g1.size
  clear g1 hbs
  have rC := own
  clear own
  obtain ⟨tP, qP0, fP0, qP1, fP1, qP2, fP2, qP3, fP3, qP4, fP4⟩ := kP.f5
  obtain ⟨tO, qO0, fO0, qO1, fO1, qO2, fO2, qO3, fO3, qO4, fO4⟩ := kO.f5
  obtain ⟨tX, qX0, fX0, qX1, fX1, qX2, fX2, qX3, fX3, qX4, fX4⟩ := kX.f5
  obtain ⟨tR, qR0, fR0, qR1, fR1, qR2, fR2, qR3, fR3, qR4, fR4⟩ := kR.f5
  obtain ⟨tS, qS0, fS0, qS1, fS1⟩ := kS.f2
  go_wp2_with fail
  clear tP qP0 fP0 qP1 fP1 qP2 fP2 qP3 fP3 qP4 fP4 tO qO0 fO0 qO1 fO1 qO2 fO2 qO3 fO3 qO4 fO4 tX qX0 fX0 qX1 fX1 qX2 fX2 qX3 fX3 qX4 fX4 tR qR0 fR0 qR1 fR1 qR2 fR2 qR3 fR3 qR4 fR4 tS qS0 fS0 qS1 fS1
  replace kP := kP.far (p := ⟨w.heap.size + 3, 0, none⟩) (show w.heap.size ≠ w.heap.size + 3 by omega) (.slice B0 ts.length d0)
  replace kO := kO.far (p := ⟨w.heap.size + 3, 0, none⟩) (show w.heap.size + 1 ≠ w.heap.size + 3 by omega) (.slice B0 ts.length d0)
  replace kX := kX.far (p := ⟨w.heap.size + 3, 0, none⟩) (show w.heap.size + 2 ≠ w.heap.size + 3 by omega) (.slice B0 ts.length d0)
  replace kS := kS.far (p := ⟨w.heap.size + 3, 0, none⟩) (show w.heap.size + 4 ≠ w.heap.size + 3 by omega) (.slice B0 ts.length d0)
  replace kR : Blk (W7.setCell ⟨w.heap.size + 3, 0, none⟩ (.slice B0 ts.length d0)) (w.heap.size + 3) 34 #[.slice B0 ts.length d0, .slice none 0 0, .slice none 0 0, .int .i64 0, .bool false] := kR.set_ 0 (.slice B0 ts.length d0)
  replace rC := rC.store (p := ⟨w.heap.size + 3, 0, none⟩) (show w.heap.size + 3 < W6.heap.size ∨ W7.heap.size ≤ w.heap.size + 3 by omega) (.slice B0 ts.length d0)
  replace G : Below w.heap.size w (W7.setCell ⟨w.heap.size + 3, 0, none⟩ (.slice B0 ts.length d0)) := Below.setCell G (show w.heap.size ≤ w.heap.size + 3 by omega) _
  have z8 : (W7.setCell ⟨w.heap.size + 3, 0, none⟩ (.slice B0 ts.length d0)).heap.size = W7.heap.size := by simp [World.setCell]
  generalize W7.setCell ⟨w.heap.size + 3, 0, none⟩ (.slice B0 ts.length d0) = W8 at kP kO kX kR kS rC G z8 ⊢
  replace kP := kP.far (p := ⟨w.heap.size + 3, 1, none⟩) (show w.heap.size ≠ w.heap.size + 3 by omega) (.slice B1 ks.length d1)
  replace kO := kO.far (p := ⟨w.heap.size + 3, 1, none⟩) (show w.heap.size + 1 ≠ w.heap.size + 3 by omega) (.slice B1 ks.length d1)
  replace kX := kX.far (p := ⟨w.heap.size + 3, 1, none⟩) (show w.heap.size + 2 ≠ w.heap.size + 3 by omega) (.slice B1 ks.length d1)
  replace kS := kS.far (p := ⟨w.heap.size + 3, 1, none⟩) (show w.heap.size + 4 ≠ w.heap.size + 3 by omega) (.slice B1 ks.length d1)
  replace kR : Blk (W8.setCell ⟨w.heap.size + 3, 1, none⟩ (.slice B1 ks.length d1)) (w.heap.size + 3) 34 #[.slice B0 ts.length d0, .slice B1 ks.length d1, .slice none 0 0, .int .i64 0, .bool false] := kR.set_ 1 (.slice B1 ks.length d1)
  replace rC := rC.store (p := ⟨w.heap.size + 3, 1, none⟩) (show w.heap.size + 3 < W6.heap.size ∨ W7.heap.size ≤ w.heap.size + 3 by omega) (.slice B1 ks.length d1)
  replace G : Below w.heap.size w (W8.setCell ⟨w.heap.size + 3, 1, none⟩ (.slice B1 ks.length d1)) := Below.setCell G (show w.heap.size ≤ w.heap.size + 3 by omega) _
  have z9 : (W8.setCell ⟨w.heap.size + 3, 1, none⟩ (.slice B1 ks.length d1)).heap.size = W8.heap.size := by simp [World.setCell]
  generalize W8.setCell ⟨w.heap.size + 3, 1, none⟩ (.slice B1 ks.length d1) = W9 at kP kO kX kR kS rC G z9 ⊢
  replace kP := kP.far (p := ⟨w.heap.size + 3, 2, none⟩) (show w.heap.size ≠ w.heap.size + 3 by omega) (.slice B2 fs.length d2)
  replace kO := kO.far (p := ⟨w.heap.size + 3, 2, none⟩) (show w.heap.size + 1 ≠ w.heap.size + 3 by omega) (.slice B2 fs.length d2)
  replace kX := kX.far (p := ⟨w.heap.size + 3, 2, none⟩) (show w.heap.size + 2 ≠ w.heap.size + 3 by omega) (.slice B2 fs.length d2)
  replace kS := kS.far (p := ⟨w.heap.size + 3, 2, none⟩) (show w.heap.size + 4 ≠ w.heap.size + 3 by omega) (.slice B2 fs.length d2)
  replace kR : Blk (W9.setCell ⟨w.heap.size + 3, 2, none⟩ (.slice B2 fs.length d2)) (w.heap.size + 3) 34 #[.slice B0 ts.length d0, .slice B1 ks.length d1, .slice B2 fs.length d2, .int .i64 0, .bool false] := kR.set_ 2 (.slice B2 fs.length d2)
  replace rC := rC.store (p := ⟨w.heap.size + 3, 2, none⟩) (show w.heap.size + 3 < W6.heap.size ∨ W7.heap.size ≤ w.heap.size + 3 by omega) (.slice B2 fs.length d2)
  replace G : Below w.heap.size w (W9.setCell ⟨w.heap.size + 3, 2, none⟩ (.slice B2 fs.length d2)) := Below.setCell G (show w.heap.size ≤ w.heap.size + 3 by omega) _
  have z10 : (W9.setCell ⟨w.heap.size + 3, 2, none⟩ (.slice B2 fs.length d2)).heap.size = W9.heap.size := by simp [World.setCell]
  generalize W9.setCell ⟨w.heap.size + 3, 2, none⟩ (.slice B2 fs.length d2) = W10 at kP kO kX kR kS rC G z10 ⊢
  replace kP := kP.far (p := ⟨w.heap.size + 3, 3, none⟩) (show w.heap.size ≠ w.heap.size + 3 by omega) (.int .i64 tn)
  replace kO := kO.far (p := ⟨w.heap.size + 3, 3, none⟩) (show w.heap.size + 1 ≠ w.heap.size + 3 by omega) (.int .i64 tn)
  replace kX := kX.far (p := ⟨w.heap.size + 3, 3, none⟩) (show w.heap.size + 2 ≠ w.heap.size + 3 by omega) (.int .i64 tn)
  replace kS := kS.far (p := ⟨w.heap.size + 3, 3, none⟩) (show w.heap.size + 4 ≠ w.heap.size + 3 by omega) (.int .i64 tn)
  replace kR : Blk (W10.setCell ⟨w.heap.size + 3, 3, none⟩ (.int .i64 tn)) (w.heap.size + 3) 34 #[.slice B0 ts.length d0, .slice B1 ks.length d1, .slice B2 fs.length d2, .int .i64 tn, .bool false] := kR.set_ 3 (.int .i64 tn)
  replace rC := rC.store (p := ⟨w.heap.size + 3, 3, none⟩) (show w.heap.size + 3 < W6.heap.size ∨ W7.heap.size ≤ w.heap.size + 3 by omega) (.int .i64 tn)
  replace G : Below w.heap.size w (W10.setCell ⟨w.heap.size + 3, 3, none⟩ (.int .i64 tn)) := Below.setCell G (show w.heap.size ≤ w.heap.size + 3 by omega) _
  have z11 : (W10.setCell ⟨w.heap.size + 3, 3, none⟩ (.int .i64 tn)).heap.size = W10.heap.size := by simp [World.setCell]
  generalize W10.setCell ⟨w.heap.size + 3, 3, none⟩ (.int .i64 tn) = W11 at kP kO kX kR kS rC G z11 ⊢
  replace kP := kP.far (p := ⟨w.heap.size + 3, 4, none⟩) (show w.heap.size ≠ w.heap.size + 3 by omega) (.bool st)
  replace kO := kO.far (p := ⟨w.heap.size + 3, 4, none⟩) (show w.heap.size + 1 ≠ w.heap.size + 3 by omega) (.bool st)
  replace kX := kX.far (p := ⟨w.heap.size + 3, 4, none⟩) (show w.heap.size + 2 ≠ w.heap.size + 3 by omega) (.bool st)
  replace kS := kS.far (p := ⟨w.heap.size + 3, 4, none⟩) (show w.heap.size + 4 ≠ w.heap.size + 3 by omega) (.bool st)
  replace kR : Blk (W11.setCell ⟨w.heap.size + 3, 4, none⟩ (.bool st)) (w.heap.size + 3) 34 #[.slice B0 ts.length d0, .slice B1 ks.length d1, .slice B2 fs.length d2, .int .i64 tn, .bool st] := kR.set_ 4 (.bool st)
  replace rC := rC.store (p := ⟨w.heap.size + 3, 4, none⟩) (show w.heap.size + 3 < W6.heap.size ∨ W7.heap.size ≤ w.heap.size + 3 by omega) (.bool st)
  replace G : Below w.heap.size w (W11.setCell ⟨w.heap.size + 3, 4, none⟩ (.bool st)) := Below.setCell G (show w.heap.size ≤ w.heap.size + 3 by omega) _
  have z12 : (W11.setCell ⟨w.heap.size + 3, 4, none⟩ (.bool st)).heap.size = W11.heap.size := by simp [World.setCell]
  generalize W11.setCell ⟨w.heap.size + 3, 4, none⟩ (.bool st) = W12 at kP kO kX kR kS rC G z12 ⊢
  replace kP := kP.far (p := ⟨w.heap.size + 4, 0, none⟩) (show w.heap.size ≠ w.heap.size + 4 by omega) (.int .i64 4)
  replace kO := kO.far (p := ⟨w.heap.size + 4, 0, none⟩) (show w.heap.size + 1 ≠ w.heap.size + 4 by omega) (.int .i64 4)
  replace kX := kX.far (p := ⟨w.heap.size + 4, 0, none⟩) (show w.heap.size + 2 ≠ w.heap.size + 4 by omega) (.int .i64 4)
  replace kR := kR.far (p := ⟨w.heap.size + 4, 0, none⟩) (show w.heap.size + 3 ≠ w.heap.size + 4 by omega) (.int .i64 4)
  replace kS : Blk (W12.setCell ⟨w.heap.size + 4, 0, none⟩ (.int .i64 4)) (w.heap.size + 4) 65 #[.int .i64 4, .int .i64 0] := kS.set_ 0 (.int .i64 4)
  replace rC := rC.store (p := ⟨w.heap.size + 4, 0, none⟩) (show w.heap.size + 4 < W6.heap.size ∨ W7.heap.size ≤ w.heap.size + 4 by omega) (.int .i64 4)
  replace G : Below w.heap.size w (W12.setCell ⟨w.heap.size + 4, 0, none⟩ (.int .i64 4)) := Below.setCell G (show w.heap.size ≤ w.heap.size + 4 by omega) _
  have z13 : (W12.setCell ⟨w.heap.size + 4, 0, none⟩ (.int .i64 4)).heap.size = W12.heap.size := by simp [World.setCell]
  generalize W12.setCell ⟨w.heap.size + 4, 0, none⟩ (.int .i64 4) = W13 at kP kO kX kR kS rC G z13 ⊢
  replace kP := kP.far (p := ⟨w.heap.size + 4, 1, none⟩) (show w.heap.size ≠ w.heap.size + 4 by omega) (.int .i64 0)
  replace kO := kO.far (p := ⟨w.heap.size + 4, 1, none⟩) (show w.heap.size + 1 ≠ w.heap.size + 4 by omega) (.int .i64 0)
  replace kX := kX.far (p := ⟨w.heap.size + 4, 1, none⟩) (show w.heap.size + 2 ≠ w.heap.size + 4 by omega) (.int .i64 0)
  replace kR := kR.far (p := ⟨w.heap.size + 4, 1, none⟩) (show w.heap.size + 3 ≠ w.heap.size + 4 by omega) (.int .i64 0)
  replace kS : Blk (W13.setCell ⟨w.heap.size + 4, 1, none⟩ (.int .i64 0)) (w.heap.size + 4) 65 #[.int .i64 4, .int .i64 0] := kS.set_ 1 (.int .i64 0)
  replace rC := rC.store (p := ⟨w.heap.size + 4, 1, none⟩) (show w.heap.size + 4 < W6.heap.size ∨ W7.heap.size ≤ w.heap.size + 4 by omega) (.int .i64 0)
  replace G : Below w.heap.size w (W13.setCell ⟨w.heap.size + 4, 1, none⟩ (.int .i64 0)) := Below.setCell G (show w.heap.size ≤ w.heap.size + 4 by omega) _
  have z14 : (W13.setCell ⟨w.heap.size + 4, 1, none⟩ (.int .i64 0)).heap.size = W13.heap.size := by simp [World.setCell]
  generalize W13.setCell ⟨w.heap.size + 4, 1, none⟩ (.int .i64 0) = W14 at kP kO kX kR kS rC G z14 ⊢
  obtain ⟨tR, qR0, qR1, qR2, qR3, qR4⟩ := kR.q5
  obtain ⟨tS, qS0, qS1⟩ := kS.q2
  exact bodyPost_ret (v := .tuple #[.agg #[.slice B0 ts.length d0, .slice B1 ks.length d1, .slice B2 fs.length d2, .int .i64 tn, .bool st], .agg #[.int .i64 4, .int .i64 0]]) (by simp [results, Try.results93, go_sem, qR0, qR1, qR2, qR3, qR4, qS0, qS1]) rfl ⟨B0, B1, B2, d0, d1, d2, rfl, rC.wide (by omega) (by omega), G⟩
end Go.Proofs.Ytgncjcnobojgbaa

namespace Go.Proofs.Ytgncjcnobojgbaa
open Go.RowKit
set_option linter.unusedVariables false

/-- A pool and an answer. -/
structure OutP where
  ts : List T7
  ks : List Int
  fs : List F2
  tn : Int
  st : Bool
  rp : Int
  ou : Int
/-- The pool as it is beside a reply; the zero one where it is not right. -/
def noO (z : Bool) (ts : List T7) (ks : List Int) (fs : List F2) (tn : Int) (st : Bool) (rp : Int) : OutP := if z then ⟨ts, ks, fs, tn, st, rp, 0⟩ else ⟨[], [], [], 0, false, 8, 0⟩
/-- A new pool and an answer, in memory between lo and the heap's end. -/
def GaveO (lo : Nat) (w : World) (o : OutP) (r : Ending) (w' : World) : Prop :=
  ∃ (B0 B1 B2 : Option Addr) (d0 d1 d2 : Nat), r = .returned (.tuple #[.agg #[.slice B0 o.ts.length d0, .slice B1 o.ks.length d1, .slice B2 o.fs.length d2, .int .i64 o.tn, .bool o.st], .agg #[.int .i64 o.rp, .int .i64 o.ou]]) ∧ OwnPool w' lo w'.heap.size o.ts o.ks o.fs B0 B1 B2 d0 d1 d2 ∧ Below w.heap.size w w'

theorem l6No_any (a b c d e : Int) (ts : List T7) (ks : List Int) (fs : List F2) (A0 A1 A2 : Option Addr) (c0 c1 c2 : Nat) (tn : Int) (st : Bool) (rp : Int) (w : World) (ht : ts.length ≤ 1048576) (hk : ks.length ≤ 1048576) (hf : fs.length ≤ 1048576) (h : InPool w ts ks fs A0 A1 A2) :
    Calls Try.prog 91 #[.agg #[.int .i64 a, .int .i64 b, .int .i64 c, .int .i64 d, .int .i64 e], .agg #[.slice A0 ts.length c0, .slice A1 ks.length c1, .slice A2 fs.length c2, .int .i64 tn, .bool st], .int .i64 rp] w (GaveO w.heap.size w (noO (poolB a b c d e ts ks fs tn) ts ks fs tn st rp)) := by
  by_cases hz : poolB a b c d e ts ks fs tn = true
  · rw [hz]
    exact l6No_yes a b c d e ts ks fs A0 A1 A2 c0 c1 c2 tn st rp w hz ht hk hf h
  · have hz' : poolB a b c d e ts ks fs tn = false := by simpa using hz
    rw [hz']
    exact l6No_no a b c d e ts ks fs A0 A1 A2 c0 c1 c2 tn st rp w hz' ht hk hf h

/-- A changed pool with its answer, where it is right; else the old one, and no turn was left. -/
def doneO (z : Bool) (ts : List T7) (ks : List Int) (fs : List F2) (tn : Int) (st : Bool) (tsx : List T7) (ksx : List Int) (fsx : List F2) (tnx : Int) (stx : Bool) (rp ou : Int) : OutP := if z then ⟨tsx, ksx, fsx, tnx, stx, rp, ou⟩ else ⟨ts, ks, fs, tn, st, 4, 0⟩

theorem l6Done_any (a b c d e : Int) (ts : List T7) (ks : List Int) (fs : List F2) (A0 A1 A2 : Option Addr) (c0 c1 c2 : Nat) (tn : Int) (st : Bool) (tsx : List T7) (ksx : List Int) (fsx : List F2) (A0x A1x A2x : Option Addr) (c0x c1x c2x : Nat) (tnx : Int) (stx : Bool) (rp ou : Int) (lo hi : Nat) (w : World) (ho : poolB a b c d e ts ks fs tn = true) (ht : ts.length ≤ 1048576) (hk : ks.length ≤ 1048576) (hf : fs.length ≤ 1048576) (htx : tsx.length ≤ 1048576) (hkx : ksx.length ≤ 1048576) (hfx : fsx.length ≤ 1048576) (hlo : lo ≤ w.heap.size) (hhi : hi ≤ w.heap.size) (h : InPool w ts ks fs A0 A1 A2) (hx : OwnPool w lo hi tsx ksx fsx A0x A1x A2x c0x c1x c2x) :
    Calls Try.prog 93 #[.agg #[.int .i64 a, .int .i64 b, .int .i64 c, .int .i64 d, .int .i64 e], .agg #[.slice A0 ts.length c0, .slice A1 ks.length c1, .slice A2 fs.length c2, .int .i64 tn, .bool st], .agg #[.slice A0x tsx.length c0x, .slice A1x ksx.length c1x, .slice A2x fsx.length c2x, .int .i64 tnx, .bool stx], .int .i64 rp, .int .i64 ou] w (GaveO lo w (doneO (poolB a b c d e tsx ksx fsx tnx) ts ks fs tn st tsx ksx fsx tnx stx rp ou)) := by
  by_cases hz : poolB a b c d e tsx ksx fsx tnx = true
  · rw [hz]
    exact (l6Done_yes a b c d e ts ks fs A0 A1 A2 c0 c1 c2 tn st tsx ksx fsx A0x A1x A2x c0x c1x c2x tnx stx rp ou w ho hz ht hk hf htx hkx hfx h hx.reads).mono fun r w' hr => ⟨_, _, _, _, _, _, hr.1, (hx.below hr.2).wide (Nat.le_refl _) (Nat.le_trans hhi hr.2.size), hr.2⟩
  · have hz' : poolB a b c d e tsx ksx fsx tnx = false := by simpa using hz
    rw [hz']
    exact (l6Done_full a b c d e ts ks fs A0 A1 A2 c0 c1 c2 tn st tsx ksx fsx A0x A1x A2x c0x c1x c2x tnx stx rp ou w ho hz' ht hk hf htx hkx hfx h hx.reads).mono fun r w' hr => by
      obtain ⟨B0, B1, B2, d0, d1, d2, he, hw, hb⟩ := hr
      exact ⟨B0, B1, B2, d0, d1, d2, he, hw.wide hlo (Nat.le_refl _), hb⟩

/-- What is answered under 'may' is right. -/
theorem doneO_right {a b c d e : Int} {ts : List T7} {ks : List Int} {fs : List F2} {tn : Int} {st : Bool} {tsx : List T7} {ksx : List Int} {fsx : List F2} {tnx : Int} {stx : Bool} {rp ou : Int} (ho : poolB a b c d e ts ks fs tn = true) :
    let o := doneO (poolB a b c d e tsx ksx fsx tnx) ts ks fs tn st tsx ksx fsx tnx stx rp ou
    poolB a b c d e o.ts o.ks o.fs o.tn = true := by
  intro o
  by_cases hz : poolB a b c d e tsx ksx fsx tnx = true
  · have : o = ⟨tsx, ksx, fsx, tnx, stx, rp, ou⟩ := by simp [o, doneO, hz]
    rw [this]; exact hz
  · have : o = ⟨ts, ks, fs, tn, st, 4, 0⟩ := by simp [o, doneO, hz]
    rw [this]; exact ho
theorem noO_right {a b c d e : Int} {ts : List T7} {ks : List Int} {fs : List F2} {tn : Int} {st : Bool} {rp : Int} (ho : poolB a b c d e ts ks fs tn = true) :
    let o := noO (poolB a b c d e ts ks fs tn) ts ks fs tn st rp
    poolB a b c d e o.ts o.ks o.fs o.tn = true := by
  intro o
  have : o = ⟨ts, ks, fs, tn, st, rp, 0⟩ := by simp [o, noO, ho]
  rw [this]; exact ho
end Go.Proofs.Ytgncjcnobojgbaa

namespace Go.Proofs.Ytgncjcnobojgbaa
open Go.RowKit
set_option linter.unusedVariables false

def wakeT (t : T7) (tn v : Int) : T7 := ⟨1, t.l, t.o, 0, 0, v, tn⟩
def parkT (t : T7) (tn wt on : Int) : T7 := ⟨3, t.l, -1, wt, on, t.v, tn⟩

set_option maxRecDepth 100000 in
set_option maxHeartbeats 4000000 in
theorem l5Wake_any (ts : List T7) (A0 A1 A2 : Option Addr) (c0 n1 c1 n2 c2 : Nat) (tn : Int) (st : Bool) (k : Nat) (s l o wt on v0 t : Int) (v : Int) (lo hi : Nat) (w : World) (hhi : hi ≤ w.heap.size) (hlen : ts.length ≤ 1048576) (t0 : -1000000000 ≤ tn) (t1 : tn ≤ 1000000000) (ht : ts[k]? = some ⟨s, l, o, wt, on, v0, t⟩) (h : OwnR w lo hi 46 7 (.slice A0 ts.length c0) ts.length (tcells ts)) :
    Calls Try.prog 120 #[.agg #[.slice A0 ts.length c0, .slice A1 n1 c1, .slice A2 n2 c2, .int .i64 tn, .bool st], .int .i64 k, .int .i64 v] w fun r w' => r = .returned (.agg #[.slice A0 ts.length c0, .slice A1 n1 c1, .slice A2 n2 c2, .int .i64 (tn + 1), .bool st]) ∧ OwnR w' lo hi 46 7 (.slice A0 ts.length c0) ts.length (tcells (ts.set k (wakeT ⟨s, l, o, wt, on, v0, t⟩ tn v))) ∧ Within lo hi w w' := by
  have hk : k < ts.length := by
    rcases Nat.lt_or_ge k ts.length with h1 | h1
    · exact h1
    · rw [List.getElem?_eq_none h1] at ht; cases ht
  obtain ⟨g, cap, hv, _, hgl⟩ := h.1.form (by omega)
  injection hv with hA _ hc
  subst hA hc
  obtain ⟨hg1, hg2⟩ : lo ≤ g ∧ g < hi := ⟨(h.1.lt g rfl).1, h.2 g rfl⟩
  obtain ⟨s', l', o', wt', on', v', t', ht', y0, y1, y2, y3, y4, y5, y6⟩ := Own.t7 h.1 hk
  rw [ht] at ht'
  injection ht' with ht'
  injection ht' with u0 u1 u2 u3 u4 u5 u6
  subst u0 u1 u2 u3 u4 u5 u6
  have rT := h
  have fz0 : w.frozen? ⟨g, k * 7, none⟩ = false := Own.fz h.1 _
  have fz1 : w.frozen? ⟨g, k * 7 + 1, none⟩ = false := Own.fz h.1 _
  have fz2 : w.frozen? ⟨g, k * 7 + 2, none⟩ = false := Own.fz h.1 _
  have fz3 : w.frozen? ⟨g, k * 7 + 3, none⟩ = false := Own.fz h.1 _
  have fz4 : w.frozen? ⟨g, k * 7 + 4, none⟩ = false := Own.fz h.1 _
  have fz5 : w.frozen? ⟨g, k * 7 + 5, none⟩ = false := Own.fz h.1 _
  have fz6 : w.frozen? ⟨g, k * 7 + 6, none⟩ = false := Own.fz h.1 _
  have hgl2 : g < w.heap.size := hgl
  have hgl3 : g < w.heap.size + 1 := by omega
  have hgl4 : g < w.heap.size + 1 + 1 := by omega
  have hgl5 : g < w.heap.size + 1 + 1 + 1 := by omega
  clear ht h
  go_enter Try.func120, Try.ntmps120
  go_wp2_with fail
  have G := Within.refl lo hi w
  replace rT : OwnR (((((((w.setCell ⟨g, k * 7, none⟩ (.int .i64 1)).setCell ⟨g, k * 7 + 1, none⟩ (.int .i64 l)).setCell ⟨g, k * 7 + 2, none⟩ (.int .i64 o)).setCell ⟨g, k * 7 + 3, none⟩ (.int .i64 0)).setCell ⟨g, k * 7 + 4, none⟩ (.int .i64 0)).setCell ⟨g, k * 7 + 5, none⟩ (.int .i64 v)).setCell ⟨g, k * 7 + 6, none⟩ (.int .i64 tn)) _ _ _ _ _ _ _ := ⟨Own.put7 rT.1 k 1 l o 0 0 v tn, rT.2⟩
  replace G := (Within.setIn (Within.setIn (Within.setIn (Within.setIn (Within.setIn (Within.setIn (Within.setIn G (p := ⟨g, k * 7, none⟩) (show lo ≤ g ∧ g < hi by omega) (.int .i64 1)) (p := ⟨g, k * 7 + 1, none⟩) (show lo ≤ g ∧ g < hi by omega) (.int .i64 l)) (p := ⟨g, k * 7 + 2, none⟩) (show lo ≤ g ∧ g < hi by omega) (.int .i64 o)) (p := ⟨g, k * 7 + 3, none⟩) (show lo ≤ g ∧ g < hi by omega) (.int .i64 0)) (p := ⟨g, k * 7 + 4, none⟩) (show lo ≤ g ∧ g < hi by omega) (.int .i64 0)) (p := ⟨g, k * 7 + 5, none⟩) (show lo ≤ g ∧ g < hi by omega) (.int .i64 v)) (p := ⟨g, k * 7 + 6, none⟩) (show lo ≤ g ∧ g < hi by omega) (.int .i64 tn))
  have z1 : ((((((((w.setCell ⟨g, k * 7, none⟩ (.int .i64 1)).setCell ⟨g, k * 7 + 1, none⟩ (.int .i64 l)).setCell ⟨g, k * 7 + 2, none⟩ (.int .i64 o)).setCell ⟨g, k * 7 + 3, none⟩ (.int .i64 0)).setCell ⟨g, k * 7 + 4, none⟩ (.int .i64 0)).setCell ⟨g, k * 7 + 5, none⟩ (.int .i64 v)).setCell ⟨g, k * 7 + 6, none⟩ (.int .i64 tn))).heap.size = w.heap.size := by simp [World.setCell]
  generalize ((((((w.setCell ⟨g, k * 7, none⟩ (.int .i64 1)).setCell ⟨g, k * 7 + 1, none⟩ (.int .i64 l)).setCell ⟨g, k * 7 + 2, none⟩ (.int .i64 o)).setCell ⟨g, k * 7 + 3, none⟩ (.int .i64 0)).setCell ⟨g, k * 7 + 4, none⟩ (.int .i64 0)).setCell ⟨g, k * 7 + 5, none⟩ (.int .i64 v)).setCell ⟨g, k * 7 + 6, none⟩ (.int .i64 tn) = W1 at rT G z1 ⊢
  have kX : Blk (W1.alloc (.cells #[.slice (some ⟨g, 0, none⟩) ts.length c0, .slice A1 n1 c1, .slice A2 n2 c2, .int .i64 (tn + 1), .bool st] 34)) (w.heap.size) 34 #[.slice (some ⟨g, 0, none⟩) ts.length c0, .slice A1 n1 c1, .slice A2 n2 c2, .int .i64 (tn + 1), .bool st] := by
    have h := Blk.new W1 34 #[.slice (some ⟨g, 0, none⟩) ts.length c0, .slice A1 n1 c1, .slice A2 n2 c2, .int .i64 (tn + 1), .bool st]
    rw [show W1.heap.size = w.heap.size by omega] at h
    exact h
  replace rT := rT.alloc (.cells #[.slice (some ⟨g, 0, none⟩) ts.length c0, .slice A1 n1 c1, .slice A2 n2 c2, .int .i64 (tn + 1), .bool st] 34)
  have hbs := G.size
  replace G := G.alloc (by omega) (.cells #[.slice (some ⟨g, 0, none⟩) ts.length c0, .slice A1 n1 c1, .slice A2 n2 c2, .int .i64 (tn + 1), .bool st] 34)
  have z2 : (W1.alloc (.cells #[.slice (some ⟨g, 0, none⟩) ts.length c0, .slice A1 n1 c1, .slice A2 n2 c2, .int .i64 (tn + 1), .bool st] 34)).heap.size = W1.heap.size + 1 := by simp
  clear hbs
  generalize W1.alloc (.cells #[.slice (some ⟨g, 0, none⟩) ts.length c0, .slice A1 n1 c1, .slice A2 n2 c2, .int .i64 (tn + 1), .bool st] 34) = W2 at kX rT G z2 ⊢
  have kR : Blk (W2.alloc (.cells #[.slice (some ⟨g, 0, none⟩) ts.length c0, .slice A1 n1 c1, .slice A2 n2 c2, .int .i64 (tn + 1), .bool st] 34)) (w.heap.size + 1) 34 #[.slice (some ⟨g, 0, none⟩) ts.length c0, .slice A1 n1 c1, .slice A2 n2 c2, .int .i64 (tn + 1), .bool st] := by
    have h := Blk.new W2 34 #[.slice (some ⟨g, 0, none⟩) ts.length c0, .slice A1 n1 c1, .slice A2 n2 c2, .int .i64 (tn + 1), .bool st]
    rw [show W2.heap.size = w.heap.size + 1 by omega] at h
    exact h
  replace kX := kX.alloc (.cells #[.slice (some ⟨g, 0, none⟩) ts.length c0, .slice A1 n1 c1, .slice A2 n2 c2, .int .i64 (tn + 1), .bool st] 34)
  replace rT := rT.alloc (.cells #[.slice (some ⟨g, 0, none⟩) ts.length c0, .slice A1 n1 c1, .slice A2 n2 c2, .int .i64 (tn + 1), .bool st] 34)
  have hbs := G.size
  replace G := G.alloc (by omega) (.cells #[.slice (some ⟨g, 0, none⟩) ts.length c0, .slice A1 n1 c1, .slice A2 n2 c2, .int .i64 (tn + 1), .bool st] 34)
  have z3 : (W2.alloc (.cells #[.slice (some ⟨g, 0, none⟩) ts.length c0, .slice A1 n1 c1, .slice A2 n2 c2, .int .i64 (tn + 1), .bool st] 34)).heap.size = W2.heap.size + 1 := by simp
  clear hbs
  generalize W2.alloc (.cells #[.slice (some ⟨g, 0, none⟩) ts.length c0, .slice A1 n1 c1, .slice A2 n2 c2, .int .i64 (tn + 1), .bool st] 34) = W3 at kX kR rT G z3 ⊢
  have kT : Blk (W3.alloc (.cells #[.int .i64 1, .int .i64 l, .int .i64 o, .int .i64 0, .int .i64 0, .int .i64 v, .int .i64 tn] 46)) (w.heap.size + 2) 46 #[.int .i64 1, .int .i64 l, .int .i64 o, .int .i64 0, .int .i64 0, .int .i64 v, .int .i64 tn] := by
    have h := Blk.new W3 46 #[.int .i64 1, .int .i64 l, .int .i64 o, .int .i64 0, .int .i64 0, .int .i64 v, .int .i64 tn]
    rw [show W3.heap.size = w.heap.size + 2 by omega] at h
    exact h
  replace kX := kX.alloc (.cells #[.int .i64 1, .int .i64 l, .int .i64 o, .int .i64 0, .int .i64 0, .int .i64 v, .int .i64 tn] 46)
  replace kR := kR.alloc (.cells #[.int .i64 1, .int .i64 l, .int .i64 o, .int .i64 0, .int .i64 0, .int .i64 v, .int .i64 tn] 46)
  replace rT := rT.alloc (.cells #[.int .i64 1, .int .i64 l, .int .i64 o, .int .i64 0, .int .i64 0, .int .i64 v, .int .i64 tn] 46)
  have hbs := G.size
  replace G := G.alloc (by omega) (.cells #[.int .i64 1, .int .i64 l, .int .i64 o, .int .i64 0, .int .i64 0, .int .i64 v, .int .i64 tn] 46)
  have z4 : (W3.alloc (.cells #[.int .i64 1, .int .i64 l, .int .i64 o, .int .i64 0, .int .i64 0, .int .i64 v, .int .i64 tn] 46)).heap.size = W3.heap.size + 1 := by simp
  clear hbs
  generalize W3.alloc (.cells #[.int .i64 1, .int .i64 l, .int .i64 o, .int .i64 0, .int .i64 0, .int .i64 v, .int .i64 tn] 46) = W4 at kX kR kT rT G z4 ⊢
  have tR : w.heap.size + 1 < W4.heap.size := kR.lt
  have qR0 : W4.cell? ⟨w.heap.size + 1, 0, none⟩ = some (.slice (some ⟨g, 0, none⟩) ts.length c0) := kR.cell 0
  have qR1 : W4.cell? ⟨w.heap.size + 1, 1, none⟩ = some (.slice A1 n1 c1) := kR.cell 1
  have qR2 : W4.cell? ⟨w.heap.size + 1, 2, none⟩ = some (.slice A2 n2 c2) := kR.cell 2
  have qR3 : W4.cell? ⟨w.heap.size + 1, 3, none⟩ = some (.int .i64 (tn + 1)) := kR.cell 3
  have qR4 : W4.cell? ⟨w.heap.size + 1, 4, none⟩ = some (.bool st) := kR.cell 4
  exact bodyPost_ret (v := .agg #[.slice (some ⟨g, 0, none⟩) ts.length c0, .slice A1 n1 c1, .slice A2 n2 c2, .int .i64 (tn + 1), .bool st]) (by simp [results, Try.results120, go_sem, qR0, qR1, qR2, qR3, qR4]) rfl ⟨rfl, rT, G⟩

set_option maxRecDepth 100000 in
set_option maxHeartbeats 4000000 in
theorem l5Park_any (ts : List T7) (A0 A1 A2 : Option Addr) (c0 n1 c1 n2 c2 : Nat) (tn : Int) (st : Bool) (k : Nat) (s l o wt on v0 t : Int) (pw po : Int) (lo hi : Nat) (w : World) (hhi : hi ≤ w.heap.size) (hlen : ts.length ≤ 1048576) (t0 : -1000000000 ≤ tn) (t1 : tn ≤ 1000000000) (ht : ts[k]? = some ⟨s, l, o, wt, on, v0, t⟩) (h : OwnR w lo hi 46 7 (.slice A0 ts.length c0) ts.length (tcells ts)) :
    Calls Try.prog 160 #[.agg #[.slice A0 ts.length c0, .slice A1 n1 c1, .slice A2 n2 c2, .int .i64 tn, .bool st], .int .i64 k, .int .i64 pw, .int .i64 po] w fun r w' => r = .returned (.agg #[.slice A0 ts.length c0, .slice A1 n1 c1, .slice A2 n2 c2, .int .i64 (tn + 1), .bool st]) ∧ OwnR w' lo hi 46 7 (.slice A0 ts.length c0) ts.length (tcells (ts.set k (parkT ⟨s, l, o, wt, on, v0, t⟩ tn pw po))) ∧ Within lo hi w w' := by
  have hk : k < ts.length := by
    rcases Nat.lt_or_ge k ts.length with h1 | h1
    · exact h1
    · rw [List.getElem?_eq_none h1] at ht; cases ht
  obtain ⟨g, cap, hv, _, hgl⟩ := h.1.form (by omega)
  injection hv with hA _ hc
  subst hA hc
  obtain ⟨hg1, hg2⟩ : lo ≤ g ∧ g < hi := ⟨(h.1.lt g rfl).1, h.2 g rfl⟩
  obtain ⟨s', l', o', wt', on', v', t', ht', y0, y1, y2, y3, y4, y5, y6⟩ := Own.t7 h.1 hk
  rw [ht] at ht'
  injection ht' with ht'
  injection ht' with u0 u1 u2 u3 u4 u5 u6
  subst u0 u1 u2 u3 u4 u5 u6
  have rT := h
  have fz0 : w.frozen? ⟨g, k * 7, none⟩ = false := Own.fz h.1 _
  have fz1 : w.frozen? ⟨g, k * 7 + 1, none⟩ = false := Own.fz h.1 _
  have fz2 : w.frozen? ⟨g, k * 7 + 2, none⟩ = false := Own.fz h.1 _
  have fz3 : w.frozen? ⟨g, k * 7 + 3, none⟩ = false := Own.fz h.1 _
  have fz4 : w.frozen? ⟨g, k * 7 + 4, none⟩ = false := Own.fz h.1 _
  have fz5 : w.frozen? ⟨g, k * 7 + 5, none⟩ = false := Own.fz h.1 _
  have fz6 : w.frozen? ⟨g, k * 7 + 6, none⟩ = false := Own.fz h.1 _
  have hgl2 : g < w.heap.size := hgl
  have hgl3 : g < w.heap.size + 1 := by omega
  have hgl4 : g < w.heap.size + 1 + 1 := by omega
  have hgl5 : g < w.heap.size + 1 + 1 + 1 := by omega
  clear ht h
  go_enter Try.func160, Try.ntmps160
  go_wp2_with fail
  have G := Within.refl lo hi w
  replace rT : OwnR (((((((w.setCell ⟨g, k * 7, none⟩ (.int .i64 3)).setCell ⟨g, k * 7 + 1, none⟩ (.int .i64 l)).setCell ⟨g, k * 7 + 2, none⟩ (.int .i64 (-1))).setCell ⟨g, k * 7 + 3, none⟩ (.int .i64 pw)).setCell ⟨g, k * 7 + 4, none⟩ (.int .i64 po)).setCell ⟨g, k * 7 + 5, none⟩ (.int .i64 v0)).setCell ⟨g, k * 7 + 6, none⟩ (.int .i64 tn)) _ _ _ _ _ _ _ := ⟨Own.put7 rT.1 k 3 l (-1) pw po v0 tn, rT.2⟩
  replace G := (Within.setIn (Within.setIn (Within.setIn (Within.setIn (Within.setIn (Within.setIn (Within.setIn G (p := ⟨g, k * 7, none⟩) (show lo ≤ g ∧ g < hi by omega) (.int .i64 3)) (p := ⟨g, k * 7 + 1, none⟩) (show lo ≤ g ∧ g < hi by omega) (.int .i64 l)) (p := ⟨g, k * 7 + 2, none⟩) (show lo ≤ g ∧ g < hi by omega) (.int .i64 (-1))) (p := ⟨g, k * 7 + 3, none⟩) (show lo ≤ g ∧ g < hi by omega) (.int .i64 pw)) (p := ⟨g, k * 7 + 4, none⟩) (show lo ≤ g ∧ g < hi by omega) (.int .i64 po)) (p := ⟨g, k * 7 + 5, none⟩) (show lo ≤ g ∧ g < hi by omega) (.int .i64 v0)) (p := ⟨g, k * 7 + 6, none⟩) (show lo ≤ g ∧ g < hi by omega) (.int .i64 tn))
  have z1 : ((((((((w.setCell ⟨g, k * 7, none⟩ (.int .i64 3)).setCell ⟨g, k * 7 + 1, none⟩ (.int .i64 l)).setCell ⟨g, k * 7 + 2, none⟩ (.int .i64 (-1))).setCell ⟨g, k * 7 + 3, none⟩ (.int .i64 pw)).setCell ⟨g, k * 7 + 4, none⟩ (.int .i64 po)).setCell ⟨g, k * 7 + 5, none⟩ (.int .i64 v0)).setCell ⟨g, k * 7 + 6, none⟩ (.int .i64 tn))).heap.size = w.heap.size := by simp [World.setCell]
  generalize ((((((w.setCell ⟨g, k * 7, none⟩ (.int .i64 3)).setCell ⟨g, k * 7 + 1, none⟩ (.int .i64 l)).setCell ⟨g, k * 7 + 2, none⟩ (.int .i64 (-1))).setCell ⟨g, k * 7 + 3, none⟩ (.int .i64 pw)).setCell ⟨g, k * 7 + 4, none⟩ (.int .i64 po)).setCell ⟨g, k * 7 + 5, none⟩ (.int .i64 v0)).setCell ⟨g, k * 7 + 6, none⟩ (.int .i64 tn) = W1 at rT G z1 ⊢
  have kX : Blk (W1.alloc (.cells #[.slice (some ⟨g, 0, none⟩) ts.length c0, .slice A1 n1 c1, .slice A2 n2 c2, .int .i64 (tn + 1), .bool st] 34)) (w.heap.size) 34 #[.slice (some ⟨g, 0, none⟩) ts.length c0, .slice A1 n1 c1, .slice A2 n2 c2, .int .i64 (tn + 1), .bool st] := by
    have h := Blk.new W1 34 #[.slice (some ⟨g, 0, none⟩) ts.length c0, .slice A1 n1 c1, .slice A2 n2 c2, .int .i64 (tn + 1), .bool st]
    rw [show W1.heap.size = w.heap.size by omega] at h
    exact h
  replace rT := rT.alloc (.cells #[.slice (some ⟨g, 0, none⟩) ts.length c0, .slice A1 n1 c1, .slice A2 n2 c2, .int .i64 (tn + 1), .bool st] 34)
  have hbs := G.size
  replace G := G.alloc (by omega) (.cells #[.slice (some ⟨g, 0, none⟩) ts.length c0, .slice A1 n1 c1, .slice A2 n2 c2, .int .i64 (tn + 1), .bool st] 34)
  have z2 : (W1.alloc (.cells #[.slice (some ⟨g, 0, none⟩) ts.length c0, .slice A1 n1 c1, .slice A2 n2 c2, .int .i64 (tn + 1), .bool st] 34)).heap.size = W1.heap.size + 1 := by simp
  clear hbs
  generalize W1.alloc (.cells #[.slice (some ⟨g, 0, none⟩) ts.length c0, .slice A1 n1 c1, .slice A2 n2 c2, .int .i64 (tn + 1), .bool st] 34) = W2 at kX rT G z2 ⊢
  have kR : Blk (W2.alloc (.cells #[.slice (some ⟨g, 0, none⟩) ts.length c0, .slice A1 n1 c1, .slice A2 n2 c2, .int .i64 (tn + 1), .bool st] 34)) (w.heap.size + 1) 34 #[.slice (some ⟨g, 0, none⟩) ts.length c0, .slice A1 n1 c1, .slice A2 n2 c2, .int .i64 (tn + 1), .bool st] := by
    have h := Blk.new W2 34 #[.slice (some ⟨g, 0, none⟩) ts.length c0, .slice A1 n1 c1, .slice A2 n2 c2, .int .i64 (tn + 1), .bool st]
    rw [show W2.heap.size = w.heap.size + 1 by omega] at h
    exact h
  replace kX := kX.alloc (.cells #[.slice (some ⟨g, 0, none⟩) ts.length c0, .slice A1 n1 c1, .slice A2 n2 c2, .int .i64 (tn + 1), .bool st] 34)
  replace rT := rT.alloc (.cells #[.slice (some ⟨g, 0, none⟩) ts.length c0, .slice A1 n1 c1, .slice A2 n2 c2, .int .i64 (tn + 1), .bool st] 34)
  have hbs := G.size
  replace G := G.alloc (by omega) (.cells #[.slice (some ⟨g, 0, none⟩) ts.length c0, .slice A1 n1 c1, .slice A2 n2 c2, .int .i64 (tn + 1), .bool st] 34)
  have z3 : (W2.alloc (.cells #[.slice (some ⟨g, 0, none⟩) ts.length c0, .slice A1 n1 c1, .slice A2 n2 c2, .int .i64 (tn + 1), .bool st] 34)).heap.size = W2.heap.size + 1 := by simp
  clear hbs
  generalize W2.alloc (.cells #[.slice (some ⟨g, 0, none⟩) ts.length c0, .slice A1 n1 c1, .slice A2 n2 c2, .int .i64 (tn + 1), .bool st] 34) = W3 at kX kR rT G z3 ⊢
  have kT : Blk (W3.alloc (.cells #[.int .i64 3, .int .i64 l, .int .i64 (-1), .int .i64 pw, .int .i64 po, .int .i64 v0, .int .i64 tn] 46)) (w.heap.size + 2) 46 #[.int .i64 3, .int .i64 l, .int .i64 (-1), .int .i64 pw, .int .i64 po, .int .i64 v0, .int .i64 tn] := by
    have h := Blk.new W3 46 #[.int .i64 3, .int .i64 l, .int .i64 (-1), .int .i64 pw, .int .i64 po, .int .i64 v0, .int .i64 tn]
    rw [show W3.heap.size = w.heap.size + 2 by omega] at h
    exact h
  replace kX := kX.alloc (.cells #[.int .i64 3, .int .i64 l, .int .i64 (-1), .int .i64 pw, .int .i64 po, .int .i64 v0, .int .i64 tn] 46)
  replace kR := kR.alloc (.cells #[.int .i64 3, .int .i64 l, .int .i64 (-1), .int .i64 pw, .int .i64 po, .int .i64 v0, .int .i64 tn] 46)
  replace rT := rT.alloc (.cells #[.int .i64 3, .int .i64 l, .int .i64 (-1), .int .i64 pw, .int .i64 po, .int .i64 v0, .int .i64 tn] 46)
  have hbs := G.size
  replace G := G.alloc (by omega) (.cells #[.int .i64 3, .int .i64 l, .int .i64 (-1), .int .i64 pw, .int .i64 po, .int .i64 v0, .int .i64 tn] 46)
  have z4 : (W3.alloc (.cells #[.int .i64 3, .int .i64 l, .int .i64 (-1), .int .i64 pw, .int .i64 po, .int .i64 v0, .int .i64 tn] 46)).heap.size = W3.heap.size + 1 := by simp
  clear hbs
  generalize W3.alloc (.cells #[.int .i64 3, .int .i64 l, .int .i64 (-1), .int .i64 pw, .int .i64 po, .int .i64 v0, .int .i64 tn] 46) = W4 at kX kR kT rT G z4 ⊢
  have tR : w.heap.size + 1 < W4.heap.size := kR.lt
  have qR0 : W4.cell? ⟨w.heap.size + 1, 0, none⟩ = some (.slice (some ⟨g, 0, none⟩) ts.length c0) := kR.cell 0
  have qR1 : W4.cell? ⟨w.heap.size + 1, 1, none⟩ = some (.slice A1 n1 c1) := kR.cell 1
  have qR2 : W4.cell? ⟨w.heap.size + 1, 2, none⟩ = some (.slice A2 n2 c2) := kR.cell 2
  have qR3 : W4.cell? ⟨w.heap.size + 1, 3, none⟩ = some (.int .i64 (tn + 1)) := kR.cell 3
  have qR4 : W4.cell? ⟨w.heap.size + 1, 4, none⟩ = some (.bool st) := kR.cell 4
  exact bodyPost_ret (v := .agg #[.slice (some ⟨g, 0, none⟩) ts.length c0, .slice A1 n1 c1, .slice A2 n2 c2, .int .i64 (tn + 1), .bool st]) (by simp [results, Try.results160, go_sem, qR0, qR1, qR2, qR3, qR4]) rfl ⟨rfl, rT, G⟩

set_option maxHeartbeats 1000000 in
theorem l5Has_any (ts : List T7) (A0 A1 A2 : Option Addr) (c0 n1 c1 n2 c2 : Nat) (tn : Int) (st : Bool) (id : Int) (w : World) (hlen : ts.length ≤ 1048576) :
    Calls Try.prog 159 #[.agg #[.slice A0 ts.length c0, .slice A1 n1 c1, .slice A2 n2 c2, .int .i64 tn, .bool st], .int .i64 id] w fun r w' => r = .returned (.bool (btw id 0 (ts.length - 1))) ∧ Below w.heap.size w w' := by
  go_enter Try.func159, Try.ntmps159
  go_wp2_with fail
  go_call (l1In_any _ _ _ _) as r w1 ⟨rfl, rfl⟩
  go_wp2_with fail
  go_ret
  exact ⟨rfl, by go_grown⟩
end Go.Proofs.Ytgncjcnobojgbaa

namespace Go.Proofs.Ytgncjcnobojgbaa
open Go.RowKit
set_option linter.unusedVariables false

def wakeAllT : List Int → List T7 → Int → Int → List T7
  | [], ts, _, _ => ts
  | j :: r, ts, tn, v => wakeAllT r (ts.set j.toNat (wakeT (taskAt ts j) tn v)) (tn + 1) v
theorem wakeAllT_length (l : List Int) (ts : List T7) (tn v : Int) : (wakeAllT l ts tn v).length = ts.length := by
  induction l generalizing ts tn with
  | nil => rfl
  | cons j r ih => simp only [wakeAllT]; rw [ih]; simp

set_option maxRecDepth 100000 in
set_option maxHeartbeats 4000000 in
theorem l5WakeAll_any (ts : List T7) (A0 A1 A2 : Option Addr) (c0 n1 c1 n2 c2 : Nat) (tn : Int) (st : Bool) (wa oa v : Int) (lo hi : Nat) (w : World) (hhi : hi ≤ w.heap.size) (hlen : ts.length ≤ 1048576) (t0 : -500000000 ≤ tn) (t1 : tn ≤ 500000000) (h : OwnR w lo hi 46 7 (.slice A0 ts.length c0) ts.length (tcells ts)) :
    Calls Try.prog 73 #[.agg #[.slice A0 ts.length c0, .slice A1 n1 c1, .slice A2 n2 c2, .int .i64 tn, .bool st], .int .i64 wa, .int .i64 oa, .int .i64 v] w fun r w' => r = .returned (.tuple #[.agg #[.slice A0 ts.length c0, .slice A1 n1 c1, .slice A2 n2 c2, .int .i64 (tn + (waitersM ts wa oa).length), .bool st], .int .i64 ((waitersM ts wa oa).length : Nat)]) ∧ OwnR w' lo hi 46 7 (.slice A0 ts.length c0) ts.length (tcells (wakeAllT (waitersM ts wa oa) ts tn v)) ∧ Within lo hi w w' := by
  have hmem : Hid (∀ x ∈ waitersM ts wa oa, ∃ j : Nat, x = j ∧ j < ts.length) := hide (lineM_mem _ _ _)
  have hll : (waitersM ts wa oa).length ≤ ts.length := lineM_length _ _ _
  have hW : Hid (∀ V, Row V A0 (tcells ts) → Calls Try.prog 29 #[.agg #[.slice A0 ts.length c0, .slice A1 n1 c1, .slice A2 n2 c2, .int .i64 tn, .bool st], .int .i64 wa, .int .i64 oa] V fun r w' => ∃ (A : Option Addr) (c : Nat), r = .returned (.slice A (waitersM ts wa oa).length c) ∧ w'.ownsRow V.heap.size 2 1 (.slice A (waitersM ts wa oa).length c) (waitersM ts wa oa).length (icells (waitersM ts wa oa)) ∧ Below V.heap.size V w') := hide (fun V hV => waitersOn_any ts A0 A1 A2 c0 n1 c1 n2 c2 tn st wa oa V hlen hV)
  generalize waitersM ts wa oa = l at *
  go_enter Try.func73, Try.ntmps73
  go_wp2_with fail
  have G := Within.refl lo hi w
  have rT := h
  clear h
  have kX := Blk.new w 34 #[.slice A0 ts.length c0, .slice A1 n1 c1, .slice A2 n2 c2, .int .i64 tn, .bool st]
  replace rT := rT.alloc (.cells #[.slice A0 ts.length c0, .slice A1 n1 c1, .slice A2 n2 c2, .int .i64 tn, .bool st] 34)
  have hbs := G.size
  replace G := G.alloc (by omega) (.cells #[.slice A0 ts.length c0, .slice A1 n1 c1, .slice A2 n2 c2, .int .i64 tn, .bool st] 34)
  have z1 : (w.alloc (.cells #[.slice A0 ts.length c0, .slice A1 n1 c1, .slice A2 n2 c2, .int .i64 tn, .bool st] 34)).heap.size = w.heap.size + 1 := by simp
  clear hbs
  generalize w.alloc (.cells #[.slice A0 ts.length c0, .slice A1 n1 c1, .slice A2 n2 c2, .int .i64 tn, .bool st] 34) = W1 at kX rT G z1 ⊢
  have kR : Blk (W1.alloc (.cells #[.slice none 0 0, .slice none 0 0, .slice none 0 0, .int .i64 0, .bool false] 34)) (w.heap.size + 1) 34 #[.slice none 0 0, .slice none 0 0, .slice none 0 0, .int .i64 0, .bool false] := by
    have h := Blk.new W1 34 #[.slice none 0 0, .slice none 0 0, .slice none 0 0, .int .i64 0, .bool false]
    rw [show W1.heap.size = w.heap.size + 1 by omega] at h
    exact h
  replace kX := kX.alloc (.cells #[.slice none 0 0, .slice none 0 0, .slice none 0 0, .int .i64 0, .bool false] 34)
  replace rT := rT.alloc (.cells #[.slice none 0 0, .slice none 0 0, .slice none 0 0, .int .i64 0, .bool false] 34)
  have hbs := G.size
  replace G := G.alloc (by omega) (.cells #[.slice none 0 0, .slice none 0 0, .slice none 0 0, .int .i64 0, .bool false] 34)
  have z2 : (W1.alloc (.cells #[.slice none 0 0, .slice none 0 0, .slice none 0 0, .int .i64 0, .bool false] 34)).heap.size = W1.heap.size + 1 := by simp
  clear hbs
  generalize W1.alloc (.cells #[.slice none 0 0, .slice none 0 0, .slice none 0 0, .int .i64 0, .bool false] 34) = W2 at kX kR rT G z2 ⊢
  go_call (hW.out _ rT.row) as r W3 ⟨A, c, rfl, own, g1⟩
  have hbs := G.size
  replace kX := kX.below g1 kX.lt
  replace kR := kR.below g1 kR.lt
  replace rT := rT.below g1
  replace G := G.trans (Within.of_below g1)
  have z3 := g1.size
  clear g1 hbs
  have rL := OwnR.of own (Nat.le_refl _)
  clear own hW
  have tX : w.heap.size < W3.heap.size := kX.lt
  have qX0 : W3.cell? ⟨w.heap.size, 0, none⟩ = some (.slice A0 ts.length c0) := kX.cell 0
  have fX0 : W3.frozen? ⟨w.heap.size, 0, none⟩ = false := kX.frozen 0
  have qX1 : W3.cell? ⟨w.heap.size, 1, none⟩ = some (.slice A1 n1 c1) := kX.cell 1
  have fX1 : W3.frozen? ⟨w.heap.size, 1, none⟩ = false := kX.frozen 1
  have qX2 : W3.cell? ⟨w.heap.size, 2, none⟩ = some (.slice A2 n2 c2) := kX.cell 2
  have fX2 : W3.frozen? ⟨w.heap.size, 2, none⟩ = false := kX.frozen 2
  have qX3 : W3.cell? ⟨w.heap.size, 3, none⟩ = some (.int .i64 tn) := kX.cell 3
  have fX3 : W3.frozen? ⟨w.heap.size, 3, none⟩ = false := kX.frozen 3
  have qX4 : W3.cell? ⟨w.heap.size, 4, none⟩ = some (.bool st) := kX.cell 4
  have fX4 : W3.frozen? ⟨w.heap.size, 4, none⟩ = false := kX.frozen 4
  have tR : w.heap.size + 1 < W3.heap.size := kR.lt
  have qR0 : W3.cell? ⟨w.heap.size + 1, 0, none⟩ = some (.slice none 0 0) := kR.cell 0
  have fR0 : W3.frozen? ⟨w.heap.size + 1, 0, none⟩ = false := kR.frozen 0
  have qR1 : W3.cell? ⟨w.heap.size + 1, 1, none⟩ = some (.slice none 0 0) := kR.cell 1
  have fR1 : W3.frozen? ⟨w.heap.size + 1, 1, none⟩ = false := kR.frozen 1
  have qR2 : W3.cell? ⟨w.heap.size + 1, 2, none⟩ = some (.slice none 0 0) := kR.cell 2
  have fR2 : W3.frozen? ⟨w.heap.size + 1, 2, none⟩ = false := kR.frozen 2
  have qR3 : W3.cell? ⟨w.heap.size + 1, 3, none⟩ = some (.int .i64 0) := kR.cell 3
  have fR3 : W3.frozen? ⟨w.heap.size + 1, 3, none⟩ = false := kR.frozen 3
  have qR4 : W3.cell? ⟨w.heap.size + 1, 4, none⟩ = some (.bool false) := kR.cell 4
  have fR4 : W3.frozen? ⟨w.heap.size + 1, 4, none⟩ = false := kR.frozen 4
  go_wp2_with fail
  clear tX qX0 fX0 qX1 fX1 qX2 fX2 qX3 fX3 qX4 fX4 tR qR0 fR0 qR1 fR1 qR2 fR2 qR3 fR3 qR4 fR4
  go_loopw [11] (fun i wr => ∃ (k : Nat) (us : List T7), k ≤ l.length ∧ i = .int .i64 k ∧ us.length = ts.length ∧ wakeAllT l ts tn v = wakeAllT (l.drop k) us (tn + k) v ∧ OwnR wr lo hi 46 7 (.slice A0 ts.length c0) ts.length (tcells us) ∧ Blk wr w.heap.size 34 #[.slice A0 ts.length c0, .slice A1 n1 c1, .slice A2 n2 c2, .int .i64 (tn + k), .bool st] ∧ Blk wr (w.heap.size + 1) 34 #[.slice none 0 0, .slice none 0 0, .slice none 0 0, .int .i64 0, .bool false] ∧ OwnR wr (W2.heap.size) (W3.heap.size) 2 1 (.slice A l.length c) l.length (icells l) ∧ Within lo hi w wr) (fun i _ => l.length - (intOf i).toNat)
  case atStart => exact ⟨0, ts, Nat.zero_le _, rfl, rfl, by simp, rT, by simpa using kX, kR, rL, G⟩
  case round =>
    clear rT kX kR rL G
    rename World => V
    obtain ⟨k, us, hk, rfl, hul, hwk, rT, kX, kR, rL, G⟩ := hrel
    have Hwk := hide (⟨hwk, hul⟩ : _ ∧ _)
    clear hwk hul
    have z0 := G.size
    by_cases hlt : k < l.length
    · obtain ⟨b', off, xv, rfl, hd, hx, hb', y0⟩ := rL.row.ks_at hlt
      obtain ⟨j, rfl, hj⟩ := hmem.out xv (List.mem_of_getElem? hx)
      have Hd := hide (⟨hd, hx⟩ : _ ∧ _)
      clear hd hx
      obtain ⟨s, lv, o, wt, on, v0, tt, hus⟩ : ∃ s l o wt on v t : Int, us[j]? = some ⟨s, l, o, wt, on, v, t⟩ := ⟨_, _, _, _, _, _, _, by rw [List.getElem?_eq_getElem (by have := Hwk.out.2; omega)]⟩
      have hul := Hwk.out.2
      have hcon : Hid (∀ V', hi ≤ V'.heap.size → OwnR V' lo hi 46 7 (.slice A0 ts.length c0) ts.length (tcells us) → Calls Try.prog 120 #[.agg #[.slice A0 ts.length c0, .slice A1 n1 c1, .slice A2 n2 c2, .int .i64 (tn + k), .bool st], .int .i64 j, .int .i64 v] V' fun r w' => r = .returned (.agg #[.slice A0 ts.length c0, .slice A1 n1 c1, .slice A2 n2 c2, .int .i64 (tn + k + 1), .bool st]) ∧ OwnR w' lo hi 46 7 (.slice A0 ts.length c0) ts.length (tcells (us.set j (wakeT ⟨s, lv, o, wt, on, v0, tt⟩ (tn + k) v))) ∧ Within lo hi V' w') := hide (fun V' hV hO => by
        have h0 := l5Wake_any us A0 A1 A2 c0 n1 c1 n2 c2 (tn + k) st j s lv o wt on v0 tt v lo hi V' hV (by omega) (by omega) (by omega) hus (by rw [hul]; exact hO)
        rw [hul] at h0
        exact h0)
      have Hus := hide hus
      clear hus hul
      have tX : w.heap.size < V.heap.size := kX.lt
      have qX0 : V.cell? ⟨w.heap.size, 0, none⟩ = some (.slice A0 ts.length c0) := kX.cell 0
      have fX0 : V.frozen? ⟨w.heap.size, 0, none⟩ = false := kX.frozen 0
      have qX1 : V.cell? ⟨w.heap.size, 1, none⟩ = some (.slice A1 n1 c1) := kX.cell 1
      have fX1 : V.frozen? ⟨w.heap.size, 1, none⟩ = false := kX.frozen 1
      have qX2 : V.cell? ⟨w.heap.size, 2, none⟩ = some (.slice A2 n2 c2) := kX.cell 2
      have fX2 : V.frozen? ⟨w.heap.size, 2, none⟩ = false := kX.frozen 2
      have qX3 : V.cell? ⟨w.heap.size, 3, none⟩ = some (.int .i64 (tn + k)) := kX.cell 3
      have fX3 : V.frozen? ⟨w.heap.size, 3, none⟩ = false := kX.frozen 3
      have qX4 : V.cell? ⟨w.heap.size, 4, none⟩ = some (.bool st) := kX.cell 4
      have fX4 : V.frozen? ⟨w.heap.size, 4, none⟩ = false := kX.frozen 4
      have tR : w.heap.size + 1 < V.heap.size := kR.lt
      have qR0 : V.cell? ⟨w.heap.size + 1, 0, none⟩ = some (.slice none 0 0) := kR.cell 0
      have fR0 : V.frozen? ⟨w.heap.size + 1, 0, none⟩ = false := kR.frozen 0
      have qR1 : V.cell? ⟨w.heap.size + 1, 1, none⟩ = some (.slice none 0 0) := kR.cell 1
      have fR1 : V.frozen? ⟨w.heap.size + 1, 1, none⟩ = false := kR.frozen 1
      have qR2 : V.cell? ⟨w.heap.size + 1, 2, none⟩ = some (.slice none 0 0) := kR.cell 2
      have fR2 : V.frozen? ⟨w.heap.size + 1, 2, none⟩ = false := kR.frozen 2
      have qR3 : V.cell? ⟨w.heap.size + 1, 3, none⟩ = some (.int .i64 0) := kR.cell 3
      have fR3 : V.frozen? ⟨w.heap.size + 1, 3, none⟩ = false := kR.frozen 3
      have qR4 : V.cell? ⟨w.heap.size + 1, 4, none⟩ = some (.bool false) := kR.cell 4
      have fR4 : V.frozen? ⟨w.heap.size + 1, 4, none⟩ = false := kR.frozen 4
      go_wp2_with fail
      go_region_with (go_at_call 120; (refine (hcon.out V.drew (Nat.le_trans hhi z0) rT.drew).mono ?_; rintro r w2 ⟨rfl, rT2, N2⟩; have kX2 := N2.blk kX.drew (.inr (by omega)); have p0 : w2.cell? ⟨w.heap.size, 0, none⟩ = some (.slice A0 ts.length c0) := kX2.cell 0; have g0 : w2.frozen? ⟨w.heap.size, 0, none⟩ = false := kX2.frozen 0; have p1 : w2.cell? ⟨w.heap.size, 1, none⟩ = some (.slice A1 n1 c1) := kX2.cell 1; have g1 : w2.frozen? ⟨w.heap.size, 1, none⟩ = false := kX2.frozen 1; have p2 : w2.cell? ⟨w.heap.size, 2, none⟩ = some (.slice A2 n2 c2) := kX2.cell 2; have g2 : w2.frozen? ⟨w.heap.size, 2, none⟩ = false := kX2.frozen 2; have p3 : w2.cell? ⟨w.heap.size, 3, none⟩ = some (.int .i64 (tn + k)) := kX2.cell 3; have g3 : w2.frozen? ⟨w.heap.size, 3, none⟩ = false := kX2.frozen 3; have p4 : w2.cell? ⟨w.heap.size, 4, none⟩ = some (.bool st) := kX2.cell 4; have g4 : w2.frozen? ⟨w.heap.size, 4, none⟩ = false := kX2.frozen 4; skip))
      all_goals
        clear p0 g0 p1 g1 p2 g2 p3 g3 p4 g4 qX0 fX0 qX1 fX1 qX2 fX2 qX3 fX3 qX4 fX4 qR0 fR0 qR1 fR1 qR2 fR2 qR3 fR3 qR4 fR4 tX tR
        have kR2 := N2.blk kR.drew (.inr (by omega))
        have rL2 := N2.own rL.drew (.inr (by omega))
        have G2 := Within.trans G.drew N2
        have z31 : V.heap.size ≤ w2.heap.size := N2.size
        clear kX kR rL G rT
        have kX := kX2
        have kR := kR2
        have rL := rL2
        have rT := rT2
        have G := G2
        clear kX2 kR2 rL2 rT2 G2 N2
        replace kR := kR.far (p := ⟨w.heap.size, 0, none⟩) (show w.heap.size + 1 ≠ w.heap.size by omega) (.slice A0 ts.length c0)
        replace kX : Blk (w2.setCell ⟨w.heap.size, 0, none⟩ (.slice A0 ts.length c0)) (w.heap.size) 34 #[.slice A0 ts.length c0, .slice A1 n1 c1, .slice A2 n2 c2, .int .i64 (tn + k), .bool st] := kX.set_ 0 (.slice A0 ts.length c0)
        replace rT := rT.store (p := ⟨w.heap.size, 0, none⟩) (show w.heap.size < lo ∨ hi ≤ w.heap.size by omega) (.slice A0 ts.length c0)
        replace rL := rL.store (p := ⟨w.heap.size, 0, none⟩) (show w.heap.size < W2.heap.size ∨ W3.heap.size ≤ w.heap.size by omega) (.slice A0 ts.length c0)
        replace G : Within lo hi w (w2.setCell ⟨w.heap.size, 0, none⟩ (.slice A0 ts.length c0)) := Within.setNew G (show w.heap.size ≤ w.heap.size by omega) _
        have z32 : (w2.setCell ⟨w.heap.size, 0, none⟩ (.slice A0 ts.length c0)).heap.size = w2.heap.size := by simp [World.setCell]
        generalize w2.setCell ⟨w.heap.size, 0, none⟩ (.slice A0 ts.length c0) = W32 at kX kR rT rL G z32 ⊢
        replace kR := kR.far (p := ⟨w.heap.size, 1, none⟩) (show w.heap.size + 1 ≠ w.heap.size by omega) (.slice A1 n1 c1)
        replace kX : Blk (W32.setCell ⟨w.heap.size, 1, none⟩ (.slice A1 n1 c1)) (w.heap.size) 34 #[.slice A0 ts.length c0, .slice A1 n1 c1, .slice A2 n2 c2, .int .i64 (tn + k), .bool st] := kX.set_ 1 (.slice A1 n1 c1)
        replace rT := rT.store (p := ⟨w.heap.size, 1, none⟩) (show w.heap.size < lo ∨ hi ≤ w.heap.size by omega) (.slice A1 n1 c1)
        replace rL := rL.store (p := ⟨w.heap.size, 1, none⟩) (show w.heap.size < W2.heap.size ∨ W3.heap.size ≤ w.heap.size by omega) (.slice A1 n1 c1)
        replace G : Within lo hi w (W32.setCell ⟨w.heap.size, 1, none⟩ (.slice A1 n1 c1)) := Within.setNew G (show w.heap.size ≤ w.heap.size by omega) _
        have z33 : (W32.setCell ⟨w.heap.size, 1, none⟩ (.slice A1 n1 c1)).heap.size = W32.heap.size := by simp [World.setCell]
        generalize W32.setCell ⟨w.heap.size, 1, none⟩ (.slice A1 n1 c1) = W33 at kX kR rT rL G z33 ⊢
        replace kR := kR.far (p := ⟨w.heap.size, 2, none⟩) (show w.heap.size + 1 ≠ w.heap.size by omega) (.slice A2 n2 c2)
        replace kX : Blk (W33.setCell ⟨w.heap.size, 2, none⟩ (.slice A2 n2 c2)) (w.heap.size) 34 #[.slice A0 ts.length c0, .slice A1 n1 c1, .slice A2 n2 c2, .int .i64 (tn + k), .bool st] := kX.set_ 2 (.slice A2 n2 c2)
        replace rT := rT.store (p := ⟨w.heap.size, 2, none⟩) (show w.heap.size < lo ∨ hi ≤ w.heap.size by omega) (.slice A2 n2 c2)
        replace rL := rL.store (p := ⟨w.heap.size, 2, none⟩) (show w.heap.size < W2.heap.size ∨ W3.heap.size ≤ w.heap.size by omega) (.slice A2 n2 c2)
        replace G : Within lo hi w (W33.setCell ⟨w.heap.size, 2, none⟩ (.slice A2 n2 c2)) := Within.setNew G (show w.heap.size ≤ w.heap.size by omega) _
        have z34 : (W33.setCell ⟨w.heap.size, 2, none⟩ (.slice A2 n2 c2)).heap.size = W33.heap.size := by simp [World.setCell]
        generalize W33.setCell ⟨w.heap.size, 2, none⟩ (.slice A2 n2 c2) = W34 at kX kR rT rL G z34 ⊢
        replace kR := kR.far (p := ⟨w.heap.size, 3, none⟩) (show w.heap.size + 1 ≠ w.heap.size by omega) (.int .i64 (tn + k + 1))
        replace kX : Blk (W34.setCell ⟨w.heap.size, 3, none⟩ (.int .i64 (tn + k + 1))) (w.heap.size) 34 #[.slice A0 ts.length c0, .slice A1 n1 c1, .slice A2 n2 c2, .int .i64 (tn + k + 1), .bool st] := kX.set_ 3 (.int .i64 (tn + k + 1))
        replace rT := rT.store (p := ⟨w.heap.size, 3, none⟩) (show w.heap.size < lo ∨ hi ≤ w.heap.size by omega) (.int .i64 (tn + k + 1))
        replace rL := rL.store (p := ⟨w.heap.size, 3, none⟩) (show w.heap.size < W2.heap.size ∨ W3.heap.size ≤ w.heap.size by omega) (.int .i64 (tn + k + 1))
        replace G : Within lo hi w (W34.setCell ⟨w.heap.size, 3, none⟩ (.int .i64 (tn + k + 1))) := Within.setNew G (show w.heap.size ≤ w.heap.size by omega) _
        have z35 : (W34.setCell ⟨w.heap.size, 3, none⟩ (.int .i64 (tn + k + 1))).heap.size = W34.heap.size := by simp [World.setCell]
        generalize W34.setCell ⟨w.heap.size, 3, none⟩ (.int .i64 (tn + k + 1)) = W35 at kX kR rT rL G z35 ⊢
        replace kR := kR.far (p := ⟨w.heap.size, 4, none⟩) (show w.heap.size + 1 ≠ w.heap.size by omega) (.bool st)
        replace kX : Blk (W35.setCell ⟨w.heap.size, 4, none⟩ (.bool st)) (w.heap.size) 34 #[.slice A0 ts.length c0, .slice A1 n1 c1, .slice A2 n2 c2, .int .i64 (tn + k + 1), .bool st] := kX.set_ 4 (.bool st)
        replace rT := rT.store (p := ⟨w.heap.size, 4, none⟩) (show w.heap.size < lo ∨ hi ≤ w.heap.size by omega) (.bool st)
        replace rL := rL.store (p := ⟨w.heap.size, 4, none⟩) (show w.heap.size < W2.heap.size ∨ W3.heap.size ≤ w.heap.size by omega) (.bool st)
        replace G : Within lo hi w (W35.setCell ⟨w.heap.size, 4, none⟩ (.bool st)) := Within.setNew G (show w.heap.size ≤ w.heap.size by omega) _
        have z36 : (W35.setCell ⟨w.heap.size, 4, none⟩ (.bool st)).heap.size = W35.heap.size := by simp [World.setCell]
        generalize W35.setCell ⟨w.heap.size, 4, none⟩ (.bool st) = W36 at kX kR rT rL G z36 ⊢
        go_wp2
        go_roundw
        case rel =>
          have hup : taskAt us (j : Int) = ⟨s, lv, o, wt, on, v0, tt⟩ := taskAt_of Hus.out
          exact ⟨k + 1, us.set j (wakeT ⟨s, lv, o, wt, on, v0, tt⟩ (tn + k) v), by omega, by go_num, by rw [List.length_set]; exact Hwk.out.2, by rw [Hwk.out.1, Hd.out.1, show tn + ((k + 1 : Nat) : Int) = tn + k + 1 from by omega]; simp only [wakeAllT, Int.toNat_natCast, hup], rT, kX.to (by rw [show tn + ((k + 1 : Nat) : Int) = tn + k + 1 from by omega]), kR, rL, G⟩
        case measure => simp [intOf]; omega
    · obtain rfl : k = l.length := by omega
      clear rL
      have tX : w.heap.size < V.heap.size := kX.lt
      have qX0 : V.cell? ⟨w.heap.size, 0, none⟩ = some (.slice A0 ts.length c0) := kX.cell 0
      have fX0 : V.frozen? ⟨w.heap.size, 0, none⟩ = false := kX.frozen 0
      have qX1 : V.cell? ⟨w.heap.size, 1, none⟩ = some (.slice A1 n1 c1) := kX.cell 1
      have fX1 : V.frozen? ⟨w.heap.size, 1, none⟩ = false := kX.frozen 1
      have qX2 : V.cell? ⟨w.heap.size, 2, none⟩ = some (.slice A2 n2 c2) := kX.cell 2
      have fX2 : V.frozen? ⟨w.heap.size, 2, none⟩ = false := kX.frozen 2
      have qX3 : V.cell? ⟨w.heap.size, 3, none⟩ = some (.int .i64 (tn + l.length)) := kX.cell 3
      have fX3 : V.frozen? ⟨w.heap.size, 3, none⟩ = false := kX.frozen 3
      have qX4 : V.cell? ⟨w.heap.size, 4, none⟩ = some (.bool st) := kX.cell 4
      have fX4 : V.frozen? ⟨w.heap.size, 4, none⟩ = false := kX.frozen 4
      have tR : w.heap.size + 1 < V.heap.size := kR.lt
      have qR0 : V.cell? ⟨w.heap.size + 1, 0, none⟩ = some (.slice none 0 0) := kR.cell 0
      have fR0 : V.frozen? ⟨w.heap.size + 1, 0, none⟩ = false := kR.frozen 0
      have qR1 : V.cell? ⟨w.heap.size + 1, 1, none⟩ = some (.slice none 0 0) := kR.cell 1
      have fR1 : V.frozen? ⟨w.heap.size + 1, 1, none⟩ = false := kR.frozen 1
      have qR2 : V.cell? ⟨w.heap.size + 1, 2, none⟩ = some (.slice none 0 0) := kR.cell 2
      have fR2 : V.frozen? ⟨w.heap.size + 1, 2, none⟩ = false := kR.frozen 2
      have qR3 : V.cell? ⟨w.heap.size + 1, 3, none⟩ = some (.int .i64 0) := kR.cell 3
      have fR3 : V.frozen? ⟨w.heap.size + 1, 3, none⟩ = false := kR.frozen 3
      have qR4 : V.cell? ⟨w.heap.size + 1, 4, none⟩ = some (.bool false) := kR.cell 4
      have fR4 : V.frozen? ⟨w.heap.size + 1, 4, none⟩ = false := kR.frozen 4
      go_wp2_with fail
      clear tX qX0 fX0 qX1 fX1 qX2 fX2 qX3 fX3 qX4 fX4 tR qR0 fR0 qR1 fR1 qR2 fR2 qR3 fR3 qR4 fR4
      replace kX := kX.far (p := ⟨w.heap.size + 1, 0, none⟩) (show w.heap.size ≠ w.heap.size + 1 by omega) (.slice A0 ts.length c0)
      replace kR : Blk (V.setCell ⟨w.heap.size + 1, 0, none⟩ (.slice A0 ts.length c0)) (w.heap.size + 1) 34 #[.slice A0 ts.length c0, .slice none 0 0, .slice none 0 0, .int .i64 0, .bool false] := kR.set_ 0 (.slice A0 ts.length c0)
      replace rT := rT.store (p := ⟨w.heap.size + 1, 0, none⟩) (show w.heap.size + 1 < lo ∨ hi ≤ w.heap.size + 1 by omega) (.slice A0 ts.length c0)
      replace G : Within lo hi w (V.setCell ⟨w.heap.size + 1, 0, none⟩ (.slice A0 ts.length c0)) := Within.setNew G (show w.heap.size ≤ w.heap.size + 1 by omega) _
      have z61 : (V.setCell ⟨w.heap.size + 1, 0, none⟩ (.slice A0 ts.length c0)).heap.size = V.heap.size := by simp [World.setCell]
      generalize V.setCell ⟨w.heap.size + 1, 0, none⟩ (.slice A0 ts.length c0) = W61 at kX kR rT G z61 ⊢
      replace kX := kX.far (p := ⟨w.heap.size + 1, 1, none⟩) (show w.heap.size ≠ w.heap.size + 1 by omega) (.slice A1 n1 c1)
      replace kR : Blk (W61.setCell ⟨w.heap.size + 1, 1, none⟩ (.slice A1 n1 c1)) (w.heap.size + 1) 34 #[.slice A0 ts.length c0, .slice A1 n1 c1, .slice none 0 0, .int .i64 0, .bool false] := kR.set_ 1 (.slice A1 n1 c1)
      replace rT := rT.store (p := ⟨w.heap.size + 1, 1, none⟩) (show w.heap.size + 1 < lo ∨ hi ≤ w.heap.size + 1 by omega) (.slice A1 n1 c1)
      replace G : Within lo hi w (W61.setCell ⟨w.heap.size + 1, 1, none⟩ (.slice A1 n1 c1)) := Within.setNew G (show w.heap.size ≤ w.heap.size + 1 by omega) _
      have z62 : (W61.setCell ⟨w.heap.size + 1, 1, none⟩ (.slice A1 n1 c1)).heap.size = W61.heap.size := by simp [World.setCell]
      generalize W61.setCell ⟨w.heap.size + 1, 1, none⟩ (.slice A1 n1 c1) = W62 at kX kR rT G z62 ⊢
      replace kX := kX.far (p := ⟨w.heap.size + 1, 2, none⟩) (show w.heap.size ≠ w.heap.size + 1 by omega) (.slice A2 n2 c2)
      replace kR : Blk (W62.setCell ⟨w.heap.size + 1, 2, none⟩ (.slice A2 n2 c2)) (w.heap.size + 1) 34 #[.slice A0 ts.length c0, .slice A1 n1 c1, .slice A2 n2 c2, .int .i64 0, .bool false] := kR.set_ 2 (.slice A2 n2 c2)
      replace rT := rT.store (p := ⟨w.heap.size + 1, 2, none⟩) (show w.heap.size + 1 < lo ∨ hi ≤ w.heap.size + 1 by omega) (.slice A2 n2 c2)
      replace G : Within lo hi w (W62.setCell ⟨w.heap.size + 1, 2, none⟩ (.slice A2 n2 c2)) := Within.setNew G (show w.heap.size ≤ w.heap.size + 1 by omega) _
      have z63 : (W62.setCell ⟨w.heap.size + 1, 2, none⟩ (.slice A2 n2 c2)).heap.size = W62.heap.size := by simp [World.setCell]
      generalize W62.setCell ⟨w.heap.size + 1, 2, none⟩ (.slice A2 n2 c2) = W63 at kX kR rT G z63 ⊢
      replace kX := kX.far (p := ⟨w.heap.size + 1, 3, none⟩) (show w.heap.size ≠ w.heap.size + 1 by omega) (.int .i64 (tn + l.length))
      replace kR : Blk (W63.setCell ⟨w.heap.size + 1, 3, none⟩ (.int .i64 (tn + l.length))) (w.heap.size + 1) 34 #[.slice A0 ts.length c0, .slice A1 n1 c1, .slice A2 n2 c2, .int .i64 (tn + l.length), .bool false] := kR.set_ 3 (.int .i64 (tn + l.length))
      replace rT := rT.store (p := ⟨w.heap.size + 1, 3, none⟩) (show w.heap.size + 1 < lo ∨ hi ≤ w.heap.size + 1 by omega) (.int .i64 (tn + l.length))
      replace G : Within lo hi w (W63.setCell ⟨w.heap.size + 1, 3, none⟩ (.int .i64 (tn + l.length))) := Within.setNew G (show w.heap.size ≤ w.heap.size + 1 by omega) _
      have z64 : (W63.setCell ⟨w.heap.size + 1, 3, none⟩ (.int .i64 (tn + l.length))).heap.size = W63.heap.size := by simp [World.setCell]
      generalize W63.setCell ⟨w.heap.size + 1, 3, none⟩ (.int .i64 (tn + l.length)) = W64 at kX kR rT G z64 ⊢
      replace kX := kX.far (p := ⟨w.heap.size + 1, 4, none⟩) (show w.heap.size ≠ w.heap.size + 1 by omega) (.bool st)
      replace kR : Blk (W64.setCell ⟨w.heap.size + 1, 4, none⟩ (.bool st)) (w.heap.size + 1) 34 #[.slice A0 ts.length c0, .slice A1 n1 c1, .slice A2 n2 c2, .int .i64 (tn + l.length), .bool st] := kR.set_ 4 (.bool st)
      replace rT := rT.store (p := ⟨w.heap.size + 1, 4, none⟩) (show w.heap.size + 1 < lo ∨ hi ≤ w.heap.size + 1 by omega) (.bool st)
      replace G : Within lo hi w (W64.setCell ⟨w.heap.size + 1, 4, none⟩ (.bool st)) := Within.setNew G (show w.heap.size ≤ w.heap.size + 1 by omega) _
      have z65 : (W64.setCell ⟨w.heap.size + 1, 4, none⟩ (.bool st)).heap.size = W64.heap.size := by simp [World.setCell]
      generalize W64.setCell ⟨w.heap.size + 1, 4, none⟩ (.bool st) = W65 at kX kR rT G z65 ⊢
      have tR : w.heap.size + 1 < W65.heap.size := kR.lt
      have qR0 : W65.cell? ⟨w.heap.size + 1, 0, none⟩ = some (.slice A0 ts.length c0) := kR.cell 0
      have qR1 : W65.cell? ⟨w.heap.size + 1, 1, none⟩ = some (.slice A1 n1 c1) := kR.cell 1
      have qR2 : W65.cell? ⟨w.heap.size + 1, 2, none⟩ = some (.slice A2 n2 c2) := kR.cell 2
      have qR3 : W65.cell? ⟨w.heap.size + 1, 3, none⟩ = some (.int .i64 (tn + l.length)) := kR.cell 3
      have qR4 : W65.cell? ⟨w.heap.size + 1, 4, none⟩ = some (.bool st) := kR.cell 4
      have hus : us = wakeAllT l ts tn v := by rw [Hwk.out.1]; simp [wakeAllT]
      rw [hus] at rT
      exact bodyPost_ret (v := .tuple #[.agg #[.slice A0 ts.length c0, .slice A1 n1 c1, .slice A2 n2 c2, .int .i64 (tn + l.length), .bool st], .int .i64 (l.length : Nat)]) (by simp [results, Try.results73, go_sem, qR0, qR1, qR2, qR3, qR4]) rfl ⟨rfl, rT, G⟩
end Go.Proofs.Ytgncjcnobojgbaa

namespace Go.Proofs.Ytgncjcnobojgbaa
open Go.RowKit
set_option linter.unusedVariables false

theorem set_same {l : List Value} {i : Nat} {x : Value} (h : l[i]? = some x) : l.set i x = l := by
  apply List.ext_getElem?
  intro j
  rw [List.getElem?_set]
  by_cases hij : i = j
  · subst hij
    have hl : i < l.length := by
      rcases Nat.lt_or_ge i l.length with h1 | h1
      · exact h1
      · rw [List.getElem?_eq_none h1] at h; cases h
    rw [h]; simp [hl]
  · simp [hij]
theorem tcells_of {us : List T7} {k : Nat} {x : T7} (h : us[k]? = some x) (j : Nat) (hj : j < 7) : (tcells us)[k * 7 + j]? = x.cs[j]? := by
  rw [tcells_at, show (k * 7 + j) / 7 = k from by omega, show (k * 7 + j) % 7 = j from by omega, h]; rfl
theorem tput_s (us : List T7) (k : Nat) (s l o wt on v t x : Int) (h : us[k]? = some ⟨s, l, o, wt, on, v, t⟩) : (tcells us).set (k * 7) (.int .i64 x) = tcells (us.set k ⟨x, l, o, wt, on, v, t⟩) := by
  rw [← tcells_put]
  rw [set_same (i := k * 7 + 1) (l := (tcells us).set (k * 7) (.int .i64 x)) (by rw [List.getElem?_set_ne (by omega)]; exact tcells_of h 1 (by omega))]
  rw [set_same (i := k * 7 + 2) (l := (tcells us).set (k * 7) (.int .i64 x)) (by rw [List.getElem?_set_ne (by omega)]; exact tcells_of h 2 (by omega))]
  rw [set_same (i := k * 7 + 3) (l := (tcells us).set (k * 7) (.int .i64 x)) (by rw [List.getElem?_set_ne (by omega)]; exact tcells_of h 3 (by omega))]
  rw [set_same (i := k * 7 + 4) (l := (tcells us).set (k * 7) (.int .i64 x)) (by rw [List.getElem?_set_ne (by omega)]; exact tcells_of h 4 (by omega))]
  rw [set_same (i := k * 7 + 5) (l := (tcells us).set (k * 7) (.int .i64 x)) (by rw [List.getElem?_set_ne (by omega)]; exact tcells_of h 5 (by omega))]
  rw [set_same (i := k * 7 + 6) (l := (tcells us).set (k * 7) (.int .i64 x)) (by rw [List.getElem?_set_ne (by omega)]; exact tcells_of h 6 (by omega))]
theorem Own.put_s {w : World} {base : Nat} {e : TypeId} {g n c : Nat} {us : List T7} (h : w.ownsRow base e 7 (.slice (some ⟨g, 0, none⟩) n c) n (tcells us)) (k : Nat) (s l o wt on v t x : Int) (hk : us[k]? = some ⟨s, l, o, wt, on, v, t⟩) :
    (w.setCell ⟨g, k * 7, none⟩ (.int .i64 x)).ownsRow base e 7 (.slice (some ⟨g, 0, none⟩) n c) n (tcells (us.set k ⟨x, l, o, wt, on, v, t⟩)) := by
  rw [← tput_s us k s l o wt on v t x hk]
  exact (h.stored (k * 7) _).1
theorem tput_l (us : List T7) (k : Nat) (s l o wt on v t x : Int) (h : us[k]? = some ⟨s, l, o, wt, on, v, t⟩) : (tcells us).set (k * 7 + 1) (.int .i64 x) = tcells (us.set k ⟨s, x, o, wt, on, v, t⟩) := by
  rw [← tcells_put]
  rw [set_same (i := k * 7) (l := tcells us) (tcells_of h 0 (by omega))]
  rw [set_same (i := k * 7 + 2) (l := (tcells us).set (k * 7 + 1) (.int .i64 x)) (by rw [List.getElem?_set_ne (by omega)]; exact tcells_of h 2 (by omega))]
  rw [set_same (i := k * 7 + 3) (l := (tcells us).set (k * 7 + 1) (.int .i64 x)) (by rw [List.getElem?_set_ne (by omega)]; exact tcells_of h 3 (by omega))]
  rw [set_same (i := k * 7 + 4) (l := (tcells us).set (k * 7 + 1) (.int .i64 x)) (by rw [List.getElem?_set_ne (by omega)]; exact tcells_of h 4 (by omega))]
  rw [set_same (i := k * 7 + 5) (l := (tcells us).set (k * 7 + 1) (.int .i64 x)) (by rw [List.getElem?_set_ne (by omega)]; exact tcells_of h 5 (by omega))]
  rw [set_same (i := k * 7 + 6) (l := (tcells us).set (k * 7 + 1) (.int .i64 x)) (by rw [List.getElem?_set_ne (by omega)]; exact tcells_of h 6 (by omega))]
theorem Own.put_l {w : World} {base : Nat} {e : TypeId} {g n c : Nat} {us : List T7} (h : w.ownsRow base e 7 (.slice (some ⟨g, 0, none⟩) n c) n (tcells us)) (k : Nat) (s l o wt on v t x : Int) (hk : us[k]? = some ⟨s, l, o, wt, on, v, t⟩) :
    (w.setCell ⟨g, k * 7 + 1, none⟩ (.int .i64 x)).ownsRow base e 7 (.slice (some ⟨g, 0, none⟩) n c) n (tcells (us.set k ⟨s, x, o, wt, on, v, t⟩)) := by
  rw [← tput_l us k s l o wt on v t x hk]
  exact (h.stored (k * 7 + 1) _).1
theorem tput_o (us : List T7) (k : Nat) (s l o wt on v t x : Int) (h : us[k]? = some ⟨s, l, o, wt, on, v, t⟩) : (tcells us).set (k * 7 + 2) (.int .i64 x) = tcells (us.set k ⟨s, l, x, wt, on, v, t⟩) := by
  rw [← tcells_put]
  rw [set_same (i := k * 7) (l := tcells us) (tcells_of h 0 (by omega))]
  rw [set_same (i := k * 7 + 1) (l := tcells us) (tcells_of h 1 (by omega))]
  rw [set_same (i := k * 7 + 3) (l := (tcells us).set (k * 7 + 2) (.int .i64 x)) (by rw [List.getElem?_set_ne (by omega)]; exact tcells_of h 3 (by omega))]
  rw [set_same (i := k * 7 + 4) (l := (tcells us).set (k * 7 + 2) (.int .i64 x)) (by rw [List.getElem?_set_ne (by omega)]; exact tcells_of h 4 (by omega))]
  rw [set_same (i := k * 7 + 5) (l := (tcells us).set (k * 7 + 2) (.int .i64 x)) (by rw [List.getElem?_set_ne (by omega)]; exact tcells_of h 5 (by omega))]
  rw [set_same (i := k * 7 + 6) (l := (tcells us).set (k * 7 + 2) (.int .i64 x)) (by rw [List.getElem?_set_ne (by omega)]; exact tcells_of h 6 (by omega))]
theorem Own.put_o {w : World} {base : Nat} {e : TypeId} {g n c : Nat} {us : List T7} (h : w.ownsRow base e 7 (.slice (some ⟨g, 0, none⟩) n c) n (tcells us)) (k : Nat) (s l o wt on v t x : Int) (hk : us[k]? = some ⟨s, l, o, wt, on, v, t⟩) :
    (w.setCell ⟨g, k * 7 + 2, none⟩ (.int .i64 x)).ownsRow base e 7 (.slice (some ⟨g, 0, none⟩) n c) n (tcells (us.set k ⟨s, l, x, wt, on, v, t⟩)) := by
  rw [← tput_o us k s l o wt on v t x hk]
  exact (h.stored (k * 7 + 2) _).1
theorem tput_wt (us : List T7) (k : Nat) (s l o wt on v t x : Int) (h : us[k]? = some ⟨s, l, o, wt, on, v, t⟩) : (tcells us).set (k * 7 + 3) (.int .i64 x) = tcells (us.set k ⟨s, l, o, x, on, v, t⟩) := by
  rw [← tcells_put]
  rw [set_same (i := k * 7) (l := tcells us) (tcells_of h 0 (by omega))]
  rw [set_same (i := k * 7 + 1) (l := tcells us) (tcells_of h 1 (by omega))]
  rw [set_same (i := k * 7 + 2) (l := tcells us) (tcells_of h 2 (by omega))]
  rw [set_same (i := k * 7 + 4) (l := (tcells us).set (k * 7 + 3) (.int .i64 x)) (by rw [List.getElem?_set_ne (by omega)]; exact tcells_of h 4 (by omega))]
  rw [set_same (i := k * 7 + 5) (l := (tcells us).set (k * 7 + 3) (.int .i64 x)) (by rw [List.getElem?_set_ne (by omega)]; exact tcells_of h 5 (by omega))]
  rw [set_same (i := k * 7 + 6) (l := (tcells us).set (k * 7 + 3) (.int .i64 x)) (by rw [List.getElem?_set_ne (by omega)]; exact tcells_of h 6 (by omega))]
theorem Own.put_wt {w : World} {base : Nat} {e : TypeId} {g n c : Nat} {us : List T7} (h : w.ownsRow base e 7 (.slice (some ⟨g, 0, none⟩) n c) n (tcells us)) (k : Nat) (s l o wt on v t x : Int) (hk : us[k]? = some ⟨s, l, o, wt, on, v, t⟩) :
    (w.setCell ⟨g, k * 7 + 3, none⟩ (.int .i64 x)).ownsRow base e 7 (.slice (some ⟨g, 0, none⟩) n c) n (tcells (us.set k ⟨s, l, o, x, on, v, t⟩)) := by
  rw [← tput_wt us k s l o wt on v t x hk]
  exact (h.stored (k * 7 + 3) _).1
theorem tput_on (us : List T7) (k : Nat) (s l o wt on v t x : Int) (h : us[k]? = some ⟨s, l, o, wt, on, v, t⟩) : (tcells us).set (k * 7 + 4) (.int .i64 x) = tcells (us.set k ⟨s, l, o, wt, x, v, t⟩) := by
  rw [← tcells_put]
  rw [set_same (i := k * 7) (l := tcells us) (tcells_of h 0 (by omega))]
  rw [set_same (i := k * 7 + 1) (l := tcells us) (tcells_of h 1 (by omega))]
  rw [set_same (i := k * 7 + 2) (l := tcells us) (tcells_of h 2 (by omega))]
  rw [set_same (i := k * 7 + 3) (l := tcells us) (tcells_of h 3 (by omega))]
  rw [set_same (i := k * 7 + 5) (l := (tcells us).set (k * 7 + 4) (.int .i64 x)) (by rw [List.getElem?_set_ne (by omega)]; exact tcells_of h 5 (by omega))]
  rw [set_same (i := k * 7 + 6) (l := (tcells us).set (k * 7 + 4) (.int .i64 x)) (by rw [List.getElem?_set_ne (by omega)]; exact tcells_of h 6 (by omega))]
theorem Own.put_on {w : World} {base : Nat} {e : TypeId} {g n c : Nat} {us : List T7} (h : w.ownsRow base e 7 (.slice (some ⟨g, 0, none⟩) n c) n (tcells us)) (k : Nat) (s l o wt on v t x : Int) (hk : us[k]? = some ⟨s, l, o, wt, on, v, t⟩) :
    (w.setCell ⟨g, k * 7 + 4, none⟩ (.int .i64 x)).ownsRow base e 7 (.slice (some ⟨g, 0, none⟩) n c) n (tcells (us.set k ⟨s, l, o, wt, x, v, t⟩)) := by
  rw [← tput_on us k s l o wt on v t x hk]
  exact (h.stored (k * 7 + 4) _).1
theorem tput_v (us : List T7) (k : Nat) (s l o wt on v t x : Int) (h : us[k]? = some ⟨s, l, o, wt, on, v, t⟩) : (tcells us).set (k * 7 + 5) (.int .i64 x) = tcells (us.set k ⟨s, l, o, wt, on, x, t⟩) := by
  rw [← tcells_put]
  rw [set_same (i := k * 7) (l := tcells us) (tcells_of h 0 (by omega))]
  rw [set_same (i := k * 7 + 1) (l := tcells us) (tcells_of h 1 (by omega))]
  rw [set_same (i := k * 7 + 2) (l := tcells us) (tcells_of h 2 (by omega))]
  rw [set_same (i := k * 7 + 3) (l := tcells us) (tcells_of h 3 (by omega))]
  rw [set_same (i := k * 7 + 4) (l := tcells us) (tcells_of h 4 (by omega))]
  rw [set_same (i := k * 7 + 6) (l := (tcells us).set (k * 7 + 5) (.int .i64 x)) (by rw [List.getElem?_set_ne (by omega)]; exact tcells_of h 6 (by omega))]
theorem Own.put_v {w : World} {base : Nat} {e : TypeId} {g n c : Nat} {us : List T7} (h : w.ownsRow base e 7 (.slice (some ⟨g, 0, none⟩) n c) n (tcells us)) (k : Nat) (s l o wt on v t x : Int) (hk : us[k]? = some ⟨s, l, o, wt, on, v, t⟩) :
    (w.setCell ⟨g, k * 7 + 5, none⟩ (.int .i64 x)).ownsRow base e 7 (.slice (some ⟨g, 0, none⟩) n c) n (tcells (us.set k ⟨s, l, o, wt, on, x, t⟩)) := by
  rw [← tput_v us k s l o wt on v t x hk]
  exact (h.stored (k * 7 + 5) _).1
theorem tput_t (us : List T7) (k : Nat) (s l o wt on v t x : Int) (h : us[k]? = some ⟨s, l, o, wt, on, v, t⟩) : (tcells us).set (k * 7 + 6) (.int .i64 x) = tcells (us.set k ⟨s, l, o, wt, on, v, x⟩) := by
  rw [← tcells_put]
  rw [set_same (i := k * 7) (l := tcells us) (tcells_of h 0 (by omega))]
  rw [set_same (i := k * 7 + 1) (l := tcells us) (tcells_of h 1 (by omega))]
  rw [set_same (i := k * 7 + 2) (l := tcells us) (tcells_of h 2 (by omega))]
  rw [set_same (i := k * 7 + 3) (l := tcells us) (tcells_of h 3 (by omega))]
  rw [set_same (i := k * 7 + 4) (l := tcells us) (tcells_of h 4 (by omega))]
  rw [set_same (i := k * 7 + 5) (l := tcells us) (tcells_of h 5 (by omega))]
theorem Own.put_t {w : World} {base : Nat} {e : TypeId} {g n c : Nat} {us : List T7} (h : w.ownsRow base e 7 (.slice (some ⟨g, 0, none⟩) n c) n (tcells us)) (k : Nat) (s l o wt on v t x : Int) (hk : us[k]? = some ⟨s, l, o, wt, on, v, t⟩) :
    (w.setCell ⟨g, k * 7 + 6, none⟩ (.int .i64 x)).ownsRow base e 7 (.slice (some ⟨g, 0, none⟩) n c) n (tcells (us.set k ⟨s, l, o, wt, on, v, x⟩)) := by
  rw [← tput_t us k s l o wt on v t x hk]
  exact (h.stored (k * 7 + 6) _).1
end Go.Proofs.Ytgncjcnobojgbaa
