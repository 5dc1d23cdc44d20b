/- The program's Woken and ParkedBy, way by way. Lists no longer than a million. -/
import Derived.Test.YtfkdfkoigojciaaQB05
import Derived.Test.YtfkdfkoigojciaaQB07
import Derived.Deep.DeepCutAuto
import Derived.Test.YtfkdfkoigojciaaQB09
import Derived.Test.YtfkdfkoigojciaaQB11

namespace Go.Proofs.Ytfkdfkoigojciaa
open Go.RowKit
set_option linter.unusedVariables false
theorem ownOf {w : World} {lo g n size : Nat} {e : TypeId} {xs : List Value} (h : Blk w g e xs.toArray) (hl : lo ≤ g) (hm : n ≤ 1048576) (hs : xs.length = n * size) : OwnR w lo w.heap.size e size (.slice (some ⟨g, 0, none⟩) n n) n xs :=
 OwnR.made h hl (by unfold maxLen; omega) (by simpa using hs) (by simp)
/-- What a copy into a row leaves of the cells that it reads. -/
theorem keepC {W0 w w' : World} {gr p q j : Nat} {u v : Value} (hp : p ≠ gr) (hq : q ≠ gr) (h : W0.grownBy w (some gr) ∧ w.cell? ⟨p, j, none⟩ = some u ∧ w.cell? ⟨q, j, none⟩ = some v) (k : w.grownBy w' (some gr)) :
 W0.grownBy w' (some gr) ∧ w'.cell? ⟨p, j, none⟩ = some u ∧ w'.cell? ⟨q, j, none⟩ = some v :=
 ⟨grownBy_trans h.1 k, k.cell h.2.1 (by intro e; injection e with e; exact hp e), k.cell h.2.2 (by intro e; injection e with e; exact hq e)⟩
theorem keepC0 {w : World} {gr p q j : Nat} {u v : Value} (hp : w.cell? ⟨p, j, none⟩ = some u) (hq : w.cell? ⟨q, j, none⟩ = some v) : w.grownBy w.drew (some gr) ∧ w.drew.cell? ⟨p, j, none⟩ = some u ∧ w.drew.cell? ⟨q, j, none⟩ = some v :=
 ⟨only_drew (World.grownBy.refl _ _), hp, hq⟩
theorem sG {W0 w : World} {gr : Nat} {q : Prop} (h : W0.grownBy w (some gr) ∧ q) : W0.grownBy w (some gr) := h.1
theorem szT : (Try.prog.info? 57).map (·.size) = some 7 := by kernel_rfl
theorem szK : (Try.prog.info? 2).map (·.size) = some 1 := by kernel_rfl
theorem szF : (Try.prog.info? 87).map (·.size) = some 2 := by kernel_rfl
theorem lenT (ts : List T7) : (tcells ts).length = ts.length * 7 := tcells_length ts
theorem lenK (ks : List Int) : (icells ks).length = ks.length * 1 := by rw [icells_length]; omega
theorem lenF (fs : List F2) : (fcells fs).length = fs.length * 2 := fcells_length fs
theorem sizT (ts : List T7) : (madeCells #[.int .i64 0, .int .i64 0, .int .i64 0, .int .i64 0, .int .i64 0, .int .i64 0, .int .i64 0] (ts.length * 7)).size = (tcells ts).length := by rw [size_madeCells, tcells_length]
theorem sizK (ks : List Int) : (madeCells #[.int .i64 0] ks.length).size = (icells ks).length := by rw [size_madeCells, icells_length]
theorem sizF (fs : List F2) : (madeCells #[.bool false, .int .i64 0] (fs.length * 2)).size = (fcells fs).length := by rw [size_madeCells, fcells_length]
theorem keepA {W1 w : World} {g : Nat} {u0 u1 u2 u3 u4 : Value} (hg : g < W1.heap.size) (h : Below W1.heap.size W1 w ∧ w.cell? ⟨g, 0, none⟩ = some u0 ∧ w.cell? ⟨g, 1, none⟩ = some u1 ∧ w.cell? ⟨g, 2, none⟩ = some u2 ∧ w.cell? ⟨g, 3, none⟩ = some u3 ∧ w.cell? ⟨g, 4, none⟩ = some u4) (o : Obj) :
 Below W1.heap.size W1 (w.alloc o) ∧ (w.alloc o).cell? ⟨g, 0, none⟩ = some u0 ∧ (w.alloc o).cell? ⟨g, 1, none⟩ = some u1 ∧ (w.alloc o).cell? ⟨g, 2, none⟩ = some u2 ∧ (w.alloc o).cell? ⟨g, 3, none⟩ = some u3 ∧ (w.alloc o).cell? ⟨g, 4, none⟩ = some u4 := by
 have hz := h.1.size
 refine ⟨h.1.alloc hz o, ?_, ?_, ?_, ?_, ?_⟩
 ·rw [World.cell?_alloc_lt w o _ (show g < w.heap.size by omega)]; exact h.2.1
 ·rw [World.cell?_alloc_lt w o _ (show g < w.heap.size by omega)]; exact h.2.2.1
 ·rw [World.cell?_alloc_lt w o _ (show g < w.heap.size by omega)]; exact h.2.2.2.1
 ·rw [World.cell?_alloc_lt w o _ (show g < w.heap.size by omega)]; exact h.2.2.2.2.1
 ·rw [World.cell?_alloc_lt w o _ (show g < w.heap.size by omega)]; exact h.2.2.2.2.2
theorem keepS0 {W1 : World} {g : Nat} {u0 u1 u2 u3 u4 : Value} (h0 : W1.cell? ⟨g, 0, none⟩ = some u0) (h1 : W1.cell? ⟨g, 1, none⟩ = some u1) (h2 : W1.cell? ⟨g, 2, none⟩ = some u2) (h3 : W1.cell? ⟨g, 3, none⟩ = some u3) (h4 : W1.cell? ⟨g, 4, none⟩ = some u4) :
 Below W1.heap.size W1 W1 ∧ W1.cell? ⟨g, 0, none⟩ = some u0 ∧ W1.cell? ⟨g, 1, none⟩ = some u1 ∧ W1.cell? ⟨g, 2, none⟩ = some u2 ∧ W1.cell? ⟨g, 3, none⟩ = some u3 ∧ W1.cell? ⟨g, 4, none⟩ = some u4 := ⟨Below.refl _ _, h0, h1, h2, h3, h4⟩
theorem keepD {W1 w : World} {g : Nat} {u0 u1 u2 u3 u4 : Value} (h : Below W1.heap.size W1 w ∧ w.cell? ⟨g, 0, none⟩ = some u0 ∧ w.cell? ⟨g, 1, none⟩ = some u1 ∧ w.cell? ⟨g, 2, none⟩ = some u2 ∧ w.cell? ⟨g, 3, none⟩ = some u3 ∧ w.cell? ⟨g, 4, none⟩ = some u4) :
 Below W1.heap.size W1 w.drew ∧ w.drew.cell? ⟨g, 0, none⟩ = some u0 ∧ w.drew.cell? ⟨g, 1, none⟩ = some u1 ∧ w.drew.cell? ⟨g, 2, none⟩ = some u2 ∧ w.drew.cell? ⟨g, 3, none⟩ = some u3 ∧ w.drew.cell? ⟨g, 4, none⟩ = some u4 := ⟨h.1.drew, h.2⟩
set_option maxRecDepth 100000 in
set_option maxHeartbeats 16000000 in
theorem copied_any (ts : List T7) (ks : List Int) (fs : List F2) (A0 A1 A2 : Option Addr) (c0 c1 c2 : Nat) (tn : Int) (st : Bool) (g : Nat) (w : World) (l0 : ts.length ≤ 1048576) (l1 : ks.length ≤ 1048576) (l2 : fs.length ≤ 1048576) (hg : Blk w g 33 #[.slice A0 ts.length c0, .slice A1 ks.length c1, .slice A2 fs.length c2, .int .i64 tn, .bool st]) (h : InPool w ts ks fs A0 A1 A2) :
 Calls Try.prog 35 #[.pointer (some ⟨g, 0, none⟩)] w (MadePool w ts ks fs tn st) := by
 have H := hide h
 clear h
 obtain ⟨i0, hi, hz0, hz1, hz2⟩ := info_parts infoInt
 obtain ⟨i1, gi, gz0, gz1, gz2⟩ := info_parts infoFut
 obtain ⟨i2, ji, jz0, jz1, jz2⟩ := info_parts infoTask
 have m0 := fun w => run_make (P := Try.prog) w 25 2 i0 (.int .i64 0) Try.underlying25 hi hz0 .i64 .i64 ks.length ks.length (by omega) (by omega) (by rw [hz2]; omega) (by omega)
 have m1 := fun w => run_make (P := Try.prog) w 31 87 i1 (.agg #[.bool false, .int .i64 0]) Try.underlying31 gi gz0 .i64 .i64 fs.length fs.length (by omega) (by omega) (by rw [gz2]; omega) (by omega)
 have m2 := fun w => run_make (P := Try.prog) w 30 57 i2 (.agg #[.int .i64 0, .int .i64 0, .int .i64 0, .int .i64 0, .int .i64 0, .int .i64 0, .int .i64 0]) Try.underlying30 ji jz0 .i64 .i64 ts.length ts.length (by omega) (by omega) (by rw [jz2]; omega) (by omega)
 rw [hz1] at m0
 rw [gz1] at m1
 rw [jz1] at m2
 simp only [Int.toNat_natCast] at m0 m1 m2
 clear hi hz0 hz1 hz2 gi gz0 gz1 gz2 ji jz0 jz1 jz2
 go_enter Try.func35, Try.ntmps35
 go_wp2_with fail
 have G := Below.refl w.heap.size w
 have kg := hg
 clear hg
 have kR := Blk.new w 33 #[.slice none 0 0, .slice none 0 0, .slice none 0 0, .int .i64 0, .bool false]
 replace kg := kg.alloc (.cells #[.slice none 0 0, .slice none 0 0, .slice none 0 0, .int .i64 0, .bool false] 33)
 have hbs := G.size
 replace G := G.alloc (by omega) (.cells #[.slice none 0 0, .slice none 0 0, .slice none 0 0, .int .i64 0, .bool false] 33)
 have z1 : (w.alloc (.cells #[.slice none 0 0, .slice none 0 0, .slice none 0 0, .int .i64 0, .bool false] 33)).heap.size = w.heap.size + 1 := by simp
 clear hbs
 generalize w.alloc (.cells #[.slice none 0 0, .slice none 0 0, .slice none 0 0, .int .i64 0, .bool false] 33) = W1 at kg kR G z1 ⊢
 have HB := hide (⟨kg, kR, G, G.size, H.out.below G⟩ : _ ∧ _ ∧ Below w.heap.size w W1 ∧ w.heap.size ≤ W1.heap.size ∧ InPool W1 ts ks fs A0 A1 A2)
 obtain ⟨tg, qg0, qg1, qg2, qg3, qg4⟩ := kg.q5
 obtain ⟨tR, qR0, qR1, qR2, qR3, qR4⟩ := kR.q5
 have HZ := hide z1
 clear kg kR G z1
 have tg1 : g < W1.heap.size + 1 := by omega
 have tg2 : g < W1.heap.size + 1 + 1 := by omega
 have tg3 : g < W1.heap.size + 1 + 1 + 1 := by omega
 have tg4 : g < W1.heap.size + 1 + 1 + 1 + 1 := by omega
 go_cut [3] (fun y wc => ∃ gY gT gK gF : Nat, y = .pointer (some ⟨gY, 0, none⟩) ∧ Blk wc gY 33 #[.slice (some ⟨gT, 0, none⟩) ts.length ts.length, .slice (some ⟨gK, 0, none⟩) ks.length ks.length, .slice (some ⟨gF, 0, none⟩) fs.length fs.length, .int .i64 tn, .bool st] ∧ Blk wc gT 57 (madeCells #[.int .i64 0, .int .i64 0, .int .i64 0, .int .i64 0, .int .i64 0, .int .i64 0, .int .i64 0] (ts.length * 7)) ∧ Blk wc gK 2 (madeCells #[.int .i64 0] ks.length) ∧ Blk wc gF 87 (madeCells #[.bool false, .int .i64 0] (fs.length * 2)) ∧ (W1.heap.size ≤ gY ∧ W1.heap.size ≤ gT ∧ W1.heap.size ≤ gK ∧ W1.heap.size ≤ gF) ∧ Below W1.heap.size W1 wc)
 case first =>
  have hS0 := keepS0 (W1 := W1) (g := g) qg0 qg1 qg2 qg3 qg4
  go_region_held3 (fun w' => Below W1.heap.size W1 w' ∧ w'.cell? ⟨g, 0, none⟩ = some (.slice A0 ts.length c0) ∧ w'.cell? ⟨g, 1, none⟩ = some (.slice A1 ks.length c1) ∧ w'.cell? ⟨g, 2, none⟩ = some (.slice A2 fs.length c2) ∧ w'.cell? ⟨g, 3, none⟩ = some (.int .i64 tn) ∧ w'.cell? ⟨g, 4, none⟩ = some (.bool st)) (with_reducible (first | exact keepD hS0 | exact keepD (keepA tg hS0 _) | exact keepD (keepA tg (keepA tg hS0 _) _) | exact keepD (keepA tg (keepA tg (keepA tg hS0 _) _) _) | exact keepD (keepA tg (keepA tg (keepA tg (keepA tg hS0 _) _) _) _))) (fail)
  all_goals go_wp2_with fail
  all_goals go_meet
  all_goals clear m0 m1 m2 tg1 tg2 tg3 tg4
  all_goals
   apply Exists.intro
   apply Exists.intro
   apply Exists.intro
   apply Exists.intro
   refine ⟨rfl, ?_, ?_, ?_, ?_, ?_, ?_⟩
   ·(repeat (with_reducible first | exact Blk.at_ (by simp) | refine Blk.drew ?_ | refine Blk.alloc ?_ _))
   ·(repeat (with_reducible first | exact Blk.at_ (by simp) | refine Blk.drew ?_ | refine Blk.alloc ?_ _))
   ·(repeat (with_reducible first | exact Blk.at_ (by simp) | refine Blk.drew ?_ | refine Blk.alloc ?_ _))
   ·(repeat (with_reducible first | exact Blk.at_ (by simp) | refine Blk.drew ?_ | refine Blk.alloc ?_ _))
   ·(refine ⟨?_, ?_, ?_, ?_⟩ <;> omega)
   ·go_grown
 case rest =>
  obtain ⟨gY, gT, gK, gF, rfl, kY, kT, kK, kF, hbd, G0⟩ := hcut
  have kg := HB.out.1.below G0 HB.out.1.lt
  have kR := HB.out.2.1.below G0 HB.out.2.1.lt
  have G := HB.out.2.2.1.trans (G0.mono HB.out.2.2.2.1)
  have hin := HB.out.2.2.2.2.below G0
  have hgR : w.heap.size < W1.heap.size := by have := HB.out.2.1.lt; omega
  have hYT := kY.ne_ kT (by decide)
  have hYK := kY.ne_ kK (by decide)
  have hYF := kY.ne_ kF (by decide)
  have hTK := kT.ne_ kK (by decide)
  have hTF := kT.ne_ kF (by decide)
  have hKF := kK.ne_ kF (by decide)
  clear tg1 tg2 tg3 tg4 m0 m1 m2 qg0 qg1 qg2 qg3 qg4 tR qR0 qR1 qR2 qR3 qR4
  have qy : World.cell? wc ⟨gY, 0, none⟩ = some (.slice (some ⟨gT, 0, none⟩) ts.length ts.length) := kY.cell 0
  have qx : World.cell? wc ⟨g, 0, none⟩ = some (.slice A0 ts.length c0) := kg.cell 0
  have ty : gY < (World.heap wc).size := kY.lt
  have tx : g < (World.heap wc).size := kg.lt
  have hgr : gT ≠ gY := by omega
  have hHK := hide (⟨kT, hin⟩ : _ ∧ _)
  go_wp2_with fail
  go_region_held3 (fun w' => World.grownBy wc w' (some gT) ∧ w'.cell? ⟨gY, 0, none⟩ = some (.slice (some ⟨gT, 0, none⟩) ts.length ts.length) ∧ w'.cell? ⟨g, 0, none⟩ = some (.slice A0 ts.length c0)) (with_reducible (first | exact keepC0 qy qx | exact keepC (p := gY) (q := g) (by omega) (by omega) (by assumption) (by assumption))) (first | (refine step_copy_whole rfl (.tmp 32) (.tmp 36) 30 30 rfl 57 7 ts.length gT ts.length A0 c0 Try.underlying30 szT rfl rfl _ 57 (Blk.drew hHK.out.1) (tcells ts) (lenT ts) hHK.out.2.1 (sizT ts) (tcells_one ts) ?_; intro V0 hb4 hg4))
  have hS0 : World.grownBy wc V0 (some gT) := sG (by assumption)
  clear hHK qy qx ty tx kg kR G hin
  replace G0 := below_only G0 hS0 (by omega) G0.size
  replace kY := kY.grown hS0 (by intro e; injection e with e; omega)
  replace kK := kK.grown hS0 (by intro e; injection e with e; omega)
  replace kF := kF.grown hS0 (by intro e; injection e with e; omega)
  replace kT := hb4
  clear hS0 hb4 hg4
  have kg := HB.out.1.below G0 HB.out.1.lt
  have kR := HB.out.2.1.below G0 HB.out.2.1.lt
  have G := HB.out.2.2.1.trans (G0.mono HB.out.2.2.2.1)
  have hin := HB.out.2.2.2.2.below G0
  have qy : World.cell? V0 ⟨gY, 1, none⟩ = some (.slice (some ⟨gK, 0, none⟩) ks.length ks.length) := kY.cell 1
  have qx : World.cell? V0 ⟨g, 1, none⟩ = some (.slice A1 ks.length c1) := kg.cell 1
  have ty : gY < (World.heap V0).size := kY.lt
  have tx : g < (World.heap V0).size := kg.lt
  have hgr : gK ≠ gY := by omega
  have hHK := hide (⟨kK, hin⟩ : _ ∧ _)
  go_wp2_with fail
  go_region_held3 (fun w' => World.grownBy V0 w' (some gK) ∧ w'.cell? ⟨gY, 1, none⟩ = some (.slice (some ⟨gK, 0, none⟩) ks.length ks.length) ∧ w'.cell? ⟨g, 1, none⟩ = some (.slice A1 ks.length c1)) (with_reducible (first | exact keepC0 qy qx | exact keepC (p := gY) (q := g) (by omega) (by omega) (by assumption) (by assumption))) (first | (refine step_copy_whole rfl (.tmp 39) (.tmp 43) 25 25 rfl 2 1 ks.length gK ks.length A1 c1 Try.underlying25 szK rfl rfl _ 2 (Blk.drew hHK.out.1) (icells ks) (lenK ks) hHK.out.2.2.1 (sizK ks) (icells_one ks) ?_; intro V1 hb4 hg4))
  have hS1 : World.grownBy V0 V1 (some gK) := sG (by assumption)
  clear hHK qy qx ty tx kg kR G hin
  replace G0 := below_only G0 hS1 (by omega) G0.size
  replace kY := kY.grown hS1 (by intro e; injection e with e; omega)
  replace kT := kT.grown hS1 (by intro e; injection e with e; omega)
  replace kF := kF.grown hS1 (by intro e; injection e with e; omega)
  replace kK := hb4
  clear hS1 hb4 hg4
  have kg := HB.out.1.below G0 HB.out.1.lt
  have kR := HB.out.2.1.below G0 HB.out.2.1.lt
  have G := HB.out.2.2.1.trans (G0.mono HB.out.2.2.2.1)
  have hin := HB.out.2.2.2.2.below G0
  have qy : World.cell? V1 ⟨gY, 2, none⟩ = some (.slice (some ⟨gF, 0, none⟩) fs.length fs.length) := kY.cell 2
  have qx : World.cell? V1 ⟨g, 2, none⟩ = some (.slice A2 fs.length c2) := kg.cell 2
  have ty : gY < (World.heap V1).size := kY.lt
  have tx : g < (World.heap V1).size := kg.lt
  have hgr : gF ≠ gY := by omega
  have hHK := hide (⟨kF, hin⟩ : _ ∧ _)
  go_wp2_with fail
  go_region_held3 (fun w' => World.grownBy V1 w' (some gF) ∧ w'.cell? ⟨gY, 2, none⟩ = some (.slice (some ⟨gF, 0, none⟩) fs.length fs.length) ∧ w'.cell? ⟨g, 2, none⟩ = some (.slice A2 fs.length c2)) (with_reducible (first | exact keepC0 qy qx | exact keepC (p := gY) (q := g) (by omega) (by omega) (by assumption) (by assumption))) (first | (refine step_copy_whole rfl (.tmp 46) (.tmp 50) 31 31 rfl 87 2 fs.length gF fs.length A2 c2 Try.underlying31 szF rfl rfl _ 87 (Blk.drew hHK.out.1) (fcells fs) (lenF fs) hHK.out.2.2.2 (sizF fs) (fcells_one fs) ?_; intro V2 hb4 hg4))
  have hS2 : World.grownBy V1 V2 (some gF) := sG (by assumption)
  clear hHK qy qx ty tx kg kR G hin
  replace G0 := below_only G0 hS2 (by omega) G0.size
  replace kY := kY.grown hS2 (by intro e; injection e with e; omega)
  replace kT := kT.grown hS2 (by intro e; injection e with e; omega)
  replace kK := kK.grown hS2 (by intro e; injection e with e; omega)
  replace kF := hb4
  clear hS2 hb4 hg4
  have kg := HB.out.1.below G0 HB.out.1.lt
  have kR := HB.out.2.1.below G0 HB.out.2.1.lt
  have G := HB.out.2.2.1.trans (G0.mono HB.out.2.2.2.1)
  have hin := HB.out.2.2.2.2.below G0
  clear hin kg G0
  have hyR : w.heap.size ≠ gY := by omega
  have hz0 := kY.lt
  have hz1 := kT.lt
  have hz2 := kK.lt
  have hz3 := kF.lt
  obtain ⟨tY, qY0, fY0, qY1, fY1, qY2, fY2, qY3, fY3, qY4, fY4⟩ := kY.f5
  obtain ⟨tR, qR0, fR0, qR1, fR1, qR2, fR2, qR3, fR3, qR4, fR4⟩ := kR.f5
  go_wp2_with fail
  clear tY qY0 fY0 qY1 fY1 qY2 fY2 qY3 fY3 qY4 fY4 tR qR0 fR0 qR1 fR1 qR2 fR2 qR3 fR3 qR4 fR4
  replace kY := kY.far (p := ⟨w.heap.size, 0, none⟩) (show gY ≠ w.heap.size by omega) (.slice (some ⟨gT, 0, none⟩) ts.length ts.length)
  replace kT := kT.far (p := ⟨w.heap.size, 0, none⟩) (show gT ≠ w.heap.size by omega) (.slice (some ⟨gT, 0, none⟩) ts.length ts.length)
  replace kK := kK.far (p := ⟨w.heap.size, 0, none⟩) (show gK ≠ w.heap.size by omega) (.slice (some ⟨gT, 0, none⟩) ts.length ts.length)
  replace kF := kF.far (p := ⟨w.heap.size, 0, none⟩) (show gF ≠ w.heap.size by omega) (.slice (some ⟨gT, 0, none⟩) ts.length ts.length)
  replace kR : Blk (V2.setCell ⟨w.heap.size, 0, none⟩ (.slice (some ⟨gT, 0, none⟩) ts.length ts.length)) (w.heap.size) 33 #[.slice (some ⟨gT, 0, none⟩) ts.length ts.length, .slice none 0 0, .slice none 0 0, .int .i64 0, .bool false] := kR.set_ 0 (.slice (some ⟨gT, 0, none⟩) ts.length ts.length)
  replace G : Below w.heap.size w (V2.setCell ⟨w.heap.size, 0, none⟩ (.slice (some ⟨gT, 0, none⟩) ts.length ts.length)) := Below.setCell G (show w.heap.size ≤ w.heap.size by omega) _
  have z11 : (V2.setCell ⟨w.heap.size, 0, none⟩ (.slice (some ⟨gT, 0, none⟩) ts.length ts.length)).heap.size = V2.heap.size := by simp [World.setCell]
  generalize V2.setCell ⟨w.heap.size, 0, none⟩ (.slice (some ⟨gT, 0, none⟩) ts.length ts.length) = W11 at kY kR kT kK kF G z11 ⊢
  replace kY := kY.far (p := ⟨w.heap.size, 1, none⟩) (show gY ≠ w.heap.size by omega) (.slice (some ⟨gK, 0, none⟩) ks.length ks.length)
  replace kT := kT.far (p := ⟨w.heap.size, 1, none⟩) (show gT ≠ w.heap.size by omega) (.slice (some ⟨gK, 0, none⟩) ks.length ks.length)
  replace kK := kK.far (p := ⟨w.heap.size, 1, none⟩) (show gK ≠ w.heap.size by omega) (.slice (some ⟨gK, 0, none⟩) ks.length ks.length)
  replace kF := kF.far (p := ⟨w.heap.size, 1, none⟩) (show gF ≠ w.heap.size by omega) (.slice (some ⟨gK, 0, none⟩) ks.length ks.length)
  replace kR : Blk (W11.setCell ⟨w.heap.size, 1, none⟩ (.slice (some ⟨gK, 0, none⟩) ks.length ks.length)) (w.heap.size) 33 #[.slice (some ⟨gT, 0, none⟩) ts.length ts.length, .slice (some ⟨gK, 0, none⟩) ks.length ks.length, .slice none 0 0, .int .i64 0, .bool false] := kR.set_ 1 (.slice (some ⟨gK, 0, none⟩) ks.length ks.length)
  replace G : Below w.heap.size w (W11.setCell ⟨w.heap.size, 1, none⟩ (.slice (some ⟨gK, 0, none⟩) ks.length ks.length)) := Below.setCell G (show w.heap.size ≤ w.heap.size by omega) _
  have z12 : (W11.setCell ⟨w.heap.size, 1, none⟩ (.slice (some ⟨gK, 0, none⟩) ks.length ks.length)).heap.size = W11.heap.size := by simp [World.setCell]
  generalize W11.setCell ⟨w.heap.size, 1, none⟩ (.slice (some ⟨gK, 0, none⟩) ks.length ks.length) = W12 at kY kR kT kK kF G z12 ⊢
  replace kY := kY.far (p := ⟨w.heap.size, 2, none⟩) (show gY ≠ w.heap.size by omega) (.slice (some ⟨gF, 0, none⟩) fs.length fs.length)
  replace kT := kT.far (p := ⟨w.heap.size, 2, none⟩) (show gT ≠ w.heap.size by omega) (.slice (some ⟨gF, 0, none⟩) fs.length fs.length)
  replace kK := kK.far (p := ⟨w.heap.size, 2, none⟩) (show gK ≠ w.heap.size by omega) (.slice (some ⟨gF, 0, none⟩) fs.length fs.length)
  replace kF := kF.far (p := ⟨w.heap.size, 2, none⟩) (show gF ≠ w.heap.size by omega) (.slice (some ⟨gF, 0, none⟩) fs.length fs.length)
  replace kR : Blk (W12.setCell ⟨w.heap.size, 2, none⟩ (.slice (some ⟨gF, 0, none⟩) fs.length fs.length)) (w.heap.size) 33 #[.slice (some ⟨gT, 0, none⟩) ts.length ts.length, .slice (some ⟨gK, 0, none⟩) ks.length ks.length, .slice (some ⟨gF, 0, none⟩) fs.length fs.length, .int .i64 0, .bool false] := kR.set_ 2 (.slice (some ⟨gF, 0, none⟩) fs.length fs.length)
  replace G : Below w.heap.size w (W12.setCell ⟨w.heap.size, 2, none⟩ (.slice (some ⟨gF, 0, none⟩) fs.length fs.length)) := Below.setCell G (show w.heap.size ≤ w.heap.size by omega) _
  have z13 : (W12.setCell ⟨w.heap.size, 2, none⟩ (.slice (some ⟨gF, 0, none⟩) fs.length fs.length)).heap.size = W12.heap.size := by simp [World.setCell]
  generalize W12.setCell ⟨w.heap.size, 2, none⟩ (.slice (some ⟨gF, 0, none⟩) fs.length fs.length) = W13 at kY kR kT kK kF G z13 ⊢
  replace kY := kY.far (p := ⟨w.heap.size, 3, none⟩) (show gY ≠ w.heap.size by omega) (.int .i64 tn)
  replace kT := kT.far (p := ⟨w.heap.size, 3, none⟩) (show gT ≠ w.heap.size by omega) (.int .i64 tn)
  replace kK := kK.far (p := ⟨w.heap.size, 3, none⟩) (show gK ≠ w.heap.size by omega) (.int .i64 tn)
  replace kF := kF.far (p := ⟨w.heap.size, 3, none⟩) (show gF ≠ w.heap.size by omega) (.int .i64 tn)
  replace kR : Blk (W13.setCell ⟨w.heap.size, 3, none⟩ (.int .i64 tn)) (w.heap.size) 33 #[.slice (some ⟨gT, 0, none⟩) ts.length ts.length, .slice (some ⟨gK, 0, none⟩) ks.length ks.length, .slice (some ⟨gF, 0, none⟩) fs.length fs.length, .int .i64 tn, .bool false] := kR.set_ 3 (.int .i64 tn)
  replace G : Below w.heap.size w (W13.setCell ⟨w.heap.size, 3, none⟩ (.int .i64 tn)) := Below.setCell G (show w.heap.size ≤ w.heap.size by omega) _
  have z14 : (W13.setCell ⟨w.heap.size, 3, none⟩ (.int .i64 tn)).heap.size = W13.heap.size := by simp [World.setCell]
  generalize W13.setCell ⟨w.heap.size, 3, none⟩ (.int .i64 tn) = W14 at kY kR kT kK kF G z14 ⊢
  replace kY := kY.far (p := ⟨w.heap.size, 4, none⟩) (show gY ≠ w.heap.size by omega) (.bool st)
  replace kT := kT.far (p := ⟨w.heap.size, 4, none⟩) (show gT ≠ w.heap.size by omega) (.bool st)
  replace kK := kK.far (p := ⟨w.heap.size, 4, none⟩) (show gK ≠ w.heap.size by omega) (.bool st)
  replace kF := kF.far (p := ⟨w.heap.size, 4, none⟩) (show gF ≠ w.heap.size by omega) (.bool st)
  replace kR : Blk (W14.setCell ⟨w.heap.size, 4, none⟩ (.bool st)) (w.heap.size) 33 #[.slice (some ⟨gT, 0, none⟩) ts.length ts.length, .slice (some ⟨gK, 0, none⟩) ks.length ks.length, .slice (some ⟨gF, 0, none⟩) fs.length fs.length, .int .i64 tn, .bool st] := kR.set_ 4 (.bool st)
  replace G : Below w.heap.size w (W14.setCell ⟨w.heap.size, 4, none⟩ (.bool st)) := Below.setCell G (show w.heap.size ≤ w.heap.size by omega) _
  have z15 : (W14.setCell ⟨w.heap.size, 4, none⟩ (.bool st)).heap.size = W14.heap.size := by simp [World.setCell]
  generalize W14.setCell ⟨w.heap.size, 4, none⟩ (.bool st) = W15 at kY kR kT kK kF G z15 ⊢
  obtain ⟨tR, qR0, qR1, qR2, qR3, qR4⟩ := kR.q5
  exact bodyPost_ret (v := .agg #[.slice (some ⟨gT, 0, none⟩) ts.length ts.length, .slice (some ⟨gK, 0, none⟩) ks.length ks.length, .slice (some ⟨gF, 0, none⟩) fs.length fs.length, .int .i64 tn, .bool st]) (by simp [results, Try.results35, go_sem, qR0, qR1, qR2, qR3, qR4]) rfl ⟨some ⟨gT, 0, none⟩, some ⟨gK, 0, none⟩, some ⟨gF, 0, none⟩, _, _, _, rfl, ⟨ownOf kT (by omega) l0 (lenT ts), ownOf kK (by omega) l1 (lenK ks), ownOf kF (by omega) l2 (lenF fs)⟩, G⟩
set_option maxRecDepth 100000
theorem pright_v (a b c d e : Int) (ts : List T7) (ks : List Int) (fs : List F2) (A0 A1 A2 : Option Addr) (c0 c1 c2 : Nat) (tn : Int) (st : Bool) (g : Nat) (z : Bool) (hz : poolB a b c d e ts ks fs tn = z) (w : World) (hk : ks.length ≤ 1048576) (hf : fs.length ≤ 1048576) (hg : Blk w g 33 #[.slice A0 ts.length c0, .slice A1 ks.length c1, .slice A2 fs.length c2, .int .i64 tn, .bool st]) (h : InPool w ts ks fs A0 A1 A2) :
 Calls Try.prog 34 #[.pointer (some ⟨g, 0, none⟩), .agg #[.int .i64 a, .int .i64 b, .int .i64 c, .int .i64 d, .int .i64 e]] w fun r w' => r = .returned (.bool z) ∧ Below w.heap.size w w' := hz ▸ pright_any a b c d e ts ks fs A0 A1 A2 c0 c1 c2 tn st g w hk hf hg h
theorem copied_s (ts : List T7) (ks : List Int) (fs : List F2) (A0 A1 A2 : Option Addr) (c0 c1 c2 : Nat) (tn : Int) (st : Bool) (g : Nat) (w : World) (l0 : ts.length ≤ 1048576) (l1 : ks.length ≤ 1048576) (l2 : fs.length ≤ 1048576) (hg : Blk w g 33 #[.slice A0 ts.length c0, .slice A1 ks.length c1, .slice A2 fs.length c2, .int .i64 tn, .bool st]) (h : InPool w ts ks fs A0 A1 A2) :
 Calls Try.prog 35 #[.pointer (some ⟨g, 0, none⟩)] w fun r w' => ∃ (B0 B1 B2 : Option Addr) (d0 d1 d2 : Nat), r = .returned (.agg #[.slice B0 ts.length d0, .slice B1 ks.length d1, .slice B2 fs.length d2, .int .i64 tn, .bool st]) ∧ Sep [] w w' [rT ts.length B0 d0 ts, rK ks.length B1 d1 ks, rF fs.length B2 d2 fs] :=
 (copied_any ts ks fs A0 A1 A2 c0 c1 c2 tn st g w l0 l1 l2 hg h).mono fun r w' ⟨B0, B1, B2, d0, d1, d2, hr, ho, hb⟩ => ⟨B0, B1, B2, d0, d1, d2, hr, sepPool (Nat.le_refl _) hb ho⟩
set_option maxHeartbeats 2000000 in
theorem gWoken_bad (a b c d e : Int) (ts : List T7) (ks : List Int) (fs : List F2) (A0 A1 A2 : Option Addr) (c0 c1 c2 : Nat) (tn : Int) (st : Bool) (id : Int) (v0 : Int) (w : World) (ht : ts.length ≤ 1048576) (hk : ks.length ≤ 1048576) (hf : fs.length ≤ 1048576) (h : InPool w ts ks fs A0 A1 A2) (hp : poolB a b c d e ts ks fs tn = false) :
 Calls Try.prog 11 #[.agg #[.int .i64 a, .int .i64 b, .int .i64 c, .int .i64 d, .int .i64 e], .agg #[.slice A0 ts.length c0, .slice A1 ks.length c1, .slice A2 fs.length c2, .int .i64 tn, .bool st], .int .i64 id, .int .i64 v0] w (GaveP [] [] [] 0 false false w) := by
 have HY := hide (⟨hp, trivial⟩ : _ ∧ True)
 clear hp
 have H := hide h
 clear h
 go_enter Try.func11, Try.ntmps11
 go_wp2_with fail
 generalize hW : ((w.alloc _).alloc _).alloc _ = W1
 have M := Sep.e3 hW
 clear hW
 obtain ⟨tR, Aa, Aq, Ac, Aw, Ad, Ap, Ae, Ah, Ab, An⟩ := M.f5 0 rfl
 obtain ⟨tX, Ba, Ag, Ak, Bc, Bb, At, Af, Ay, As, Au⟩ := M.f5 1 rfl
 obtain ⟨tP, Av, Ar, Aj, Ai, Bd, Ao, Ax, Az, Al, Am⟩ := M.f5 2 rfl
 go_wp2_with fail
 go_call (pright_v a b c d e ts ks fs A0 A1 A2 c0 c1 c2 tn st _ false HY.out.1 _ hk hf (M.blk 1 rfl) (H.out.below M.below)) as r W2 ⟨rfl, g1⟩
 clear tR Aa Aq Ac Aw Ad Ap Ae Ah Ab An tX Ba Ag Ak Bc Bb At Af Ay As Au tP Av Ar Aj Ai Bd Ao Ax Az Al Am
 replace M := M.call g1
 clear g1
 obtain ⟨tR, Aa, Aq, Ac, Aw, Ad, Ap, Ae, Ah, Ab, An⟩ := M.f5 0 rfl
 obtain ⟨tX, Ba, Ag, Ak, Bc, Bb, At, Af, Ay, As, Au⟩ := M.f5 1 rfl
 obtain ⟨tP, Av, Ar, Aj, Ai, Bd, Ao, Ax, Az, Al, Am⟩ := M.f5 2 rfl
 go_wp2_with fail
 clear tR Aa Aq Ac Aw Ad Ap Ae Ah Ab An tX Ba Ag Ak Bc Bb At Af Ay As Au tP Av Ar Aj Ai Bd Ao Ax Az Al Am
 have N := M.gset5 0 rfl (.slice none 0 0) (.slice none 0 0) (.slice none 0 0) (.int .i64 0) (.bool false)
 clear M
 obtain ⟨W3, eW, M⟩ := N
 rw [eW]
 clear eW
 simp only [List.set_cons_zero] at M
 obtain ⟨tR, Aa, Ac, Ad, Ae, Ab⟩ := M.q5 0 rfl
 exact bodyPost_ret (v := .tuple #[.agg #[.slice none 0 0, .slice none 0 0, .slice none 0 0, .int .i64 0, .bool false], .bool false]) (by simp [results, Try.results11, go_sem, Aa, Ac, Ad, Ae, Ab]) rfl ⟨none, none, none, 0, 0, 0, rfl, sep_zero M.below⟩
set_option maxHeartbeats 2000000 in
theorem gWoken_no (a b c d e : Int) (ts : List T7) (ks : List Int) (fs : List F2) (A0 A1 A2 : Option Addr) (c0 c1 c2 : Nat) (tn : Int) (st : Bool) (id : Int) (v0 : Int) (w : World) (ht : ts.length ≤ 1048576) (hk : ks.length ≤ 1048576) (hf : fs.length ≤ 1048576) (h : InPool w ts ks fs A0 A1 A2) (hp : poolB a b c d e ts ks fs tn = true) (hc : canB ts id v0 tn = false) :
 Calls Try.prog 11 #[.agg #[.int .i64 a, .int .i64 b, .int .i64 c, .int .i64 d, .int .i64 e], .agg #[.slice A0 ts.length c0, .slice A1 ks.length c1, .slice A2 fs.length c2, .int .i64 tn, .bool st], .int .i64 id, .int .i64 v0] w (GaveP ts ks fs tn st false w) := by
 have HY := hide (⟨hp, hc, trivial⟩ : _ ∧ _ ∧ True)
 clear hp hc
 have H := hide h
 clear h
 go_enter Try.func11, Try.ntmps11
 go_wp2_with fail
 generalize hW : ((w.alloc _).alloc _).alloc _ = W1
 have M := Sep.e3 hW
 clear hW
 obtain ⟨tR, Aa, Aq, Ac, Aw, Ad, Ap, Ae, Ah, Ab, An⟩ := M.f5 0 rfl
 obtain ⟨tX, Ba, Ag, Ak, Bc, Bb, At, Af, Ay, As, Au⟩ := M.f5 1 rfl
 obtain ⟨tP, Av, Ar, Aj, Ai, Bd, Ao, Ax, Az, Al, Am⟩ := M.f5 2 rfl
 go_wp2_with fail
 go_call (pright_v a b c d e ts ks fs A0 A1 A2 c0 c1 c2 tn st _ true HY.out.1 _ hk hf (M.blk 1 rfl) (H.out.below M.below)) as r W2 ⟨rfl, g1⟩
 clear tR Aa Aq Ac Aw Ad Ap Ae Ah Ab An tX Ba Ag Ak Bc Bb At Af Ay As Au tP Av Ar Aj Ai Bd Ao Ax Az Al Am
 replace M := M.call g1
 clear g1
 obtain ⟨tR, Aa, Aq, Ac, Aw, Ad, Ap, Ae, Ah, Ab, An⟩ := M.f5 0 rfl
 obtain ⟨tX, Ba, Ag, Ak, Bc, Bb, At, Af, Ay, As, Au⟩ := M.f5 1 rfl
 obtain ⟨tP, Av, Ar, Aj, Ai, Bd, Ao, Ax, Az, Al, Am⟩ := M.f5 2 rfl
 go_wp2_with fail
 go_call (copied_s ts ks fs A0 A1 A2 c0 c1 c2 tn st _ _ ht hk hf (M.blk 1 rfl) (H.out.below M.below)) as r W3 ⟨C0, C1, C2, e0, e1, e2, rfl, g1⟩
 clear tR Aa Aq Ac Aw Ad Ap Ae Ah Ab An tX Ba Ag Ak Bc Bb At Af Ay As Au tP Av Ar Aj Ai Bd Ao Ax Az Al Am
 replace M := Sep.new M g1
 simp only [List.cons_append, List.nil_append] at M
 clear g1
 obtain ⟨tR, Aa, Aq, Ac, Aw, Ad, Ap, Ae, Ah, Ab, An⟩ := M.f5 3 rfl
 obtain ⟨tX, Ba, Ag, Ak, Bc, Bb, At, Af, Ay, As, Au⟩ := M.f5 4 rfl
 obtain ⟨tP, Av, Ar, Aj, Ai, Bd, Ao, Ax, Az, Al, Am⟩ := M.f5 5 rfl
 go_wp2_with fail
 clear tR Aa Aq Ac Aw Ad Ap Ae Ah Ab An tX Ba Ag Ak Bc Bb At Af Ay As Au tP Av Ar Aj Ai Bd Ao Ax Az Al Am
 have N := M.galloc 33 #[.slice C0 ts.length e0, .slice C1 ks.length e1, .slice C2 fs.length e2, .int .i64 tn, .bool st]
 clear M
 obtain ⟨W4, eW, M⟩ := N
 rw [eW]
 clear eW
 obtain ⟨tY, Bm, Bi, Bl, Bf, Bk, Bn, Bj, Bh, Be, Bg⟩ := M.f5 0 rfl
 obtain ⟨tR, Aa, Aq, Ac, Aw, Ad, Ap, Ae, Ah, Ab, An⟩ := M.f5 4 rfl
 obtain ⟨tX, Ba, Ag, Ak, Bc, Bb, At, Af, Ay, As, Au⟩ := M.f5 5 rfl
 obtain ⟨tP, Av, Ar, Aj, Ai, Bd, Ao, Ax, Az, Al, Am⟩ := M.f5 6 rfl
 go_wp2_with fail
 go_call (wake_no ts C0 C1 C2 e0 ks.length e1 fs.length e2 tn st _ id v0 _ ht (M.blk 0 rfl) (M.rowS 1 rfl) HY.out.2.1) as r W5 ⟨rfl, g1⟩
 clear tY Bm Bi Bl Bf Bk Bn Bj Bh Be Bg tR Aa Aq Ac Aw Ad Ap Ae Ah Ab An tX Ba Ag Ak Bc Bb At Af Ay As Au tP Av Ar Aj Ai Bd Ao Ax Az Al Am
 replace M := M.call g1
 clear g1
 obtain ⟨tY, Bm, Bi, Bl, Bf, Bk, Bn, Bj, Bh, Be, Bg⟩ := M.f5 0 rfl
 obtain ⟨tR, Aa, Aq, Ac, Aw, Ad, Ap, Ae, Ah, Ab, An⟩ := M.f5 4 rfl
 obtain ⟨tX, Ba, Ag, Ak, Bc, Bb, At, Af, Ay, As, Au⟩ := M.f5 5 rfl
 obtain ⟨tP, Av, Ar, Aj, Ai, Bd, Ao, Ax, Az, Al, Am⟩ := M.f5 6 rfl
 go_wp2_with fail
 clear tY Bm Bi Bl Bf Bk Bn Bj Bh Be Bg tR Aa Aq Ac Aw Ad Ap Ae Ah Ab An tX Ba Ag Ak Bc Bb At Af Ay As Au tP Av Ar Aj Ai Bd Ao Ax Az Al Am
 have N := M.gset5 4 rfl (.slice C0 ts.length e0) (.slice C1 ks.length e1) (.slice C2 fs.length e2) (.int .i64 tn) (.bool st)
 clear M
 obtain ⟨W6, eW, M⟩ := N
 rw [eW]
 clear eW
 simp only [List.set_cons_zero, List.set_cons_succ] at M
 obtain ⟨tR, Aa, Ac, Ad, Ae, Ab⟩ := M.q5 4 rfl
 exact bodyPost_ret (v := .tuple #[.agg #[.slice C0 ts.length e0, .slice C1 ks.length e1, .slice C2 fs.length e2, .int .i64 tn, .bool st], .bool false]) (by simp [results, Try.results11, go_sem, Aa, Ac, Ad, Ae, Ab]) rfl ⟨C0, C1, C2, e0, e1, e2, rfl, (M.tail).take 3⟩
set_option maxHeartbeats 2000000 in
theorem gWoken_yes (a b c d e : Int) (ts : List T7) (ks : List Int) (fs : List F2) (A0 A1 A2 : Option Addr) (c0 c1 c2 : Nat) (tn : Int) (st : Bool) (id : Int) (v0 : Int) (w : World) (ht : ts.length ≤ 1048576) (hk : ks.length ≤ 1048576) (hf : fs.length ≤ 1048576) (h : InPool w ts ks fs A0 A1 A2) (hp : poolB a b c d e ts ks fs tn = true) (k : Nat) (s l o1 wt on v t : Int) (hid : id = k) (hts : ts[k]? = some ⟨s, l, o1, wt, on, v, t⟩) (hc : canB ts k v0 tn = true) :
 Calls Try.prog 11 #[.agg #[.int .i64 a, .int .i64 b, .int .i64 c, .int .i64 d, .int .i64 e], .agg #[.slice A0 ts.length c0, .slice A1 ks.length c1, .slice A2 fs.length c2, .int .i64 tn, .bool st], .int .i64 id, .int .i64 v0] w (GaveP (ts.set k (wakeT ⟨s, l, o1, wt, on, v, t⟩ tn v0)) ks fs (tn + 1) st true w) := by
 have hkl : k < ts.length := by
  rcases Nat.lt_or_ge k ts.length with h1 | h1
  ·exact h1
  ·rw [List.getElem?_eq_none h1] at hts; cases hts
 have tb : 0 ≤ tn ∧ tn ≤ 1000000 := by
  have h1 := hp
  simp only [poolB, Bool.and_eq_true] at h1
  have h2 := h1.2.1
  simp [btw] at h2
  exact h2
 obtain ⟨tb0, tb1⟩ := tb
 subst hid
 have H := hide h
 clear h
 have HY := hide (⟨hp, hts, hc, trivial⟩ : _ ∧ _ ∧ _ ∧ True)
 clear hp hts hc
 go_enter Try.func11, Try.ntmps11
 go_wp2_with fail
 generalize hW : ((w.alloc _).alloc _).alloc _ = W1
 have M := Sep.e3 hW
 clear hW
 obtain ⟨tR, Aa, Aq, Ac, Aw, Ad, Ap, Ae, Ah, Ab, An⟩ := M.f5 0 rfl
 obtain ⟨tX, Ba, Ag, Ak, Bc, Bb, At, Af, Ay, As, Au⟩ := M.f5 1 rfl
 obtain ⟨tP, Av, Ar, Aj, Ai, Bd, Ao, Ax, Az, Al, Am⟩ := M.f5 2 rfl
 go_wp2_with fail
 go_call (pright_v a b c d e ts ks fs A0 A1 A2 c0 c1 c2 tn st _ true HY.out.1 _ hk hf (M.blk 1 rfl) (H.out.below M.below)) as r W2 ⟨rfl, g1⟩
 clear tR Aa Aq Ac Aw Ad Ap Ae Ah Ab An tX Ba Ag Ak Bc Bb At Af Ay As Au tP Av Ar Aj Ai Bd Ao Ax Az Al Am
 replace M := M.call g1
 clear g1
 obtain ⟨tR, Aa, Aq, Ac, Aw, Ad, Ap, Ae, Ah, Ab, An⟩ := M.f5 0 rfl
 obtain ⟨tX, Ba, Ag, Ak, Bc, Bb, At, Af, Ay, As, Au⟩ := M.f5 1 rfl
 obtain ⟨tP, Av, Ar, Aj, Ai, Bd, Ao, Ax, Az, Al, Am⟩ := M.f5 2 rfl
 go_wp2_with fail
 go_call (copied_s ts ks fs A0 A1 A2 c0 c1 c2 tn st _ _ ht hk hf (M.blk 1 rfl) (H.out.below M.below)) as r W3 ⟨C0, C1, C2, e0, e1, e2, rfl, g1⟩
 clear tR Aa Aq Ac Aw Ad Ap Ae Ah Ab An tX Ba Ag Ak Bc Bb At Af Ay As Au tP Av Ar Aj Ai Bd Ao Ax Az Al Am
 replace M := Sep.new M g1
 simp only [List.cons_append, List.nil_append] at M
 clear g1
 obtain ⟨tR, Aa, Aq, Ac, Aw, Ad, Ap, Ae, Ah, Ab, An⟩ := M.f5 3 rfl
 obtain ⟨tX, Ba, Ag, Ak, Bc, Bb, At, Af, Ay, As, Au⟩ := M.f5 4 rfl
 obtain ⟨tP, Av, Ar, Aj, Ai, Bd, Ao, Ax, Az, Al, Am⟩ := M.f5 5 rfl
 go_wp2_with fail
 clear tR Aa Aq Ac Aw Ad Ap Ae Ah Ab An tX Ba Ag Ak Bc Bb At Af Ay As Au tP Av Ar Aj Ai Bd Ao Ax Az Al Am
 have N := M.galloc 33 #[.slice C0 ts.length e0, .slice C1 ks.length e1, .slice C2 fs.length e2, .int .i64 tn, .bool st]
 clear M
 obtain ⟨W4, eW, M⟩ := N
 rw [eW]
 clear eW
 obtain ⟨tY, Bm, Bi, Bl, Bf, Bk, Bn, Bj, Bh, Be, Bg⟩ := M.f5 0 rfl
 obtain ⟨tR, Aa, Aq, Ac, Aw, Ad, Ap, Ae, Ah, Ab, An⟩ := M.f5 4 rfl
 obtain ⟨tX, Ba, Ag, Ak, Bc, Bb, At, Af, Ay, As, Au⟩ := M.f5 5 rfl
 obtain ⟨tP, Av, Ar, Aj, Ai, Bd, Ao, Ax, Az, Al, Am⟩ := M.f5 6 rfl
 go_wp2_with fail
 replace M := M.front 1 rfl
 simp only [List.eraseIdx_cons_succ, List.eraseIdx_cons_zero] at M
 replace M := M.front 1 rfl
 simp only [List.eraseIdx_cons_succ, List.eraseIdx_cons_zero] at M
 go_call (wake_yes ts C0 C1 C2 e0 ks.length e1 fs.length e2 tn st _ k v0 s l o1 wt on v t _ ht (by omega) HY.out.2.1 (Sep.same (ps := [.blk (W3.heap.size) 33 #[.slice C0 ts.length e0, .slice C1 ks.length e1, .slice C2 fs.length e2, .int .i64 tn, .bool st], rT ts.length C0 e0 ts]) (rs := [rK ks.length C1 e1 ks, rF fs.length C2 e2 fs, .blk (w.heap.size + 2) 33 #[.slice none 0 0, .slice none 0 0, .slice none 0 0, .int .i64 0, .bool false], .blk (w.heap.size + 1) 33 #[.slice A0 ts.length c0, .slice A1 ks.length c1, .slice A2 fs.length c2, .int .i64 tn, .bool st], .blk (w.heap.size) 36 #[.int .i64 a, .int .i64 b, .int .i64 c, .int .i64 d, .int .i64 e]]) M (Below.refl _ _)) HY.out.2.2.1) as r W5 ⟨rfl, g1⟩
 clear tY Bm Bi Bl Bf Bk Bn Bj Bh Be Bg tR Aa Aq Ac Aw Ad Ap Ae Ah Ab An tX Ba Ag Ak Bc Bb At Af Ay As Au tP Av Ar Aj Ai Bd Ao Ax Az Al Am
 replace M : Sep [] w W5 [.blk (W3.heap.size) 33 #[.slice C0 ts.length e0, .slice C1 ks.length e1, .slice C2 fs.length e2, .int .i64 (tn + 1), .bool st], rT ts.length C0 e0 (ts.set k (wakeT ⟨s, l, o1, wt, on, v, t⟩ tn v0)), rK ks.length C1 e1 ks, rF fs.length C2 e2 fs, .blk (w.heap.size + 2) 33 #[.slice none 0 0, .slice none 0 0, .slice none 0 0, .int .i64 0, .bool false], .blk (w.heap.size + 1) 33 #[.slice A0 ts.length c0, .slice A1 ks.length c1, .slice A2 fs.length c2, .int .i64 tn, .bool st], .blk (w.heap.size) 36 #[.int .i64 a, .int .i64 b, .int .i64 c, .int .i64 d, .int .i64 e]] := Sep.comp (ps := [.blk (W3.heap.size) 33 #[.slice C0 ts.length e0, .slice C1 ks.length e1, .slice C2 fs.length e2, .int .i64 tn, .bool st], rT ts.length C0 e0 ts]) (rs := [rK ks.length C1 e1 ks, rF fs.length C2 e2 fs, .blk (w.heap.size + 2) 33 #[.slice none 0 0, .slice none 0 0, .slice none 0 0, .int .i64 0, .bool false], .blk (w.heap.size + 1) 33 #[.slice A0 ts.length c0, .slice A1 ks.length c1, .slice A2 fs.length c2, .int .i64 tn, .bool st], .blk (w.heap.size) 36 #[.int .i64 a, .int .i64 b, .int .i64 c, .int .i64 d, .int .i64 e]]) M g1
 clear g1
 obtain ⟨tY, Bm, Bi, Bl, Bf, Bk, Bn, Bj, Bh, Be, Bg⟩ := M.f5 0 rfl
 obtain ⟨tR, Aa, Aq, Ac, Aw, Ad, Ap, Ae, Ah, Ab, An⟩ := M.f5 4 rfl
 obtain ⟨tX, Ba, Ag, Ak, Bc, Bb, At, Af, Ay, As, Au⟩ := M.f5 5 rfl
 obtain ⟨tP, Av, Ar, Aj, Ai, Bd, Ao, Ax, Az, Al, Am⟩ := M.f5 6 rfl
 go_wp2_with fail
 clear tY Bm Bi Bl Bf Bk Bn Bj Bh Be Bg tR Aa Aq Ac Aw Ad Ap Ae Ah Ab An tX Ba Ag Ak Bc Bb At Af Ay As Au tP Av Ar Aj Ai Bd Ao Ax Az Al Am
 have N := M.gset5 4 rfl (.slice C0 ts.length e0) (.slice C1 ks.length e1) (.slice C2 fs.length e2) (.int .i64 (tn + 1)) (.bool st)
 clear M
 obtain ⟨W6, eW, M⟩ := N
 rw [eW]
 clear eW
 simp only [List.set_cons_zero, List.set_cons_succ] at M
 obtain ⟨tR, Aa, Ac, Ad, Ae, Ab⟩ := M.q5 4 rfl
 exact bodyPost_ret (v := .tuple #[.agg #[.slice C0 ts.length e0, .slice C1 ks.length e1, .slice C2 fs.length e2, .int .i64 (tn + 1), .bool st], .bool true]) (by simp [results, Try.results11, go_sem, Aa, Ac, Ad, Ae, Ab]) rfl (by have hl : ((ts.set k (wakeT ⟨s, l, o1, wt, on, v, t⟩ tn v0))).length = ts.length := (by simp); unfold GaveP; rw [hl]; exact ⟨C0, C1, C2, e0, e1, e2, rfl, M.tail.take 3⟩)
set_option maxHeartbeats 2000000 in
theorem gParkedBy_bad (a b c d e : Int) (ts : List T7) (ks : List Int) (fs : List F2) (A0 A1 A2 : Option Addr) (c0 c1 c2 : Nat) (tn : Int) (st : Bool) (id : Int) (pw : Int) (po : Int) (w : World) (ht : ts.length ≤ 1048576) (hk : ks.length ≤ 1048576) (hf : fs.length ≤ 1048576) (h : InPool w ts ks fs A0 A1 A2) (hp : poolB a b c d e ts ks fs tn = false) :
 Calls Try.prog 18 #[.agg #[.int .i64 a, .int .i64 b, .int .i64 c, .int .i64 d, .int .i64 e], .agg #[.slice A0 ts.length c0, .slice A1 ks.length c1, .slice A2 fs.length c2, .int .i64 tn, .bool st], .int .i64 id, .int .i64 pw, .int .i64 po] w (GaveP [] [] [] 0 false false w) := by
 have HY := hide (⟨hp, trivial⟩ : _ ∧ True)
 clear hp
 have H := hide h
 clear h
 go_enter Try.func18, Try.ntmps18
 go_wp2_with fail
 generalize hW : ((w.alloc _).alloc _).alloc _ = W1
 have M := Sep.e3 hW
 clear hW
 obtain ⟨tR, Aa, Aq, Ac, Aw, Ad, Ap, Ae, Ah, Ab, An⟩ := M.f5 0 rfl
 obtain ⟨tX, Ba, Ag, Ak, Bc, Bb, At, Af, Ay, As, Au⟩ := M.f5 1 rfl
 obtain ⟨tP, Av, Ar, Aj, Ai, Bd, Ao, Ax, Az, Al, Am⟩ := M.f5 2 rfl
 go_wp2_with fail
 go_call (pright_v a b c d e ts ks fs A0 A1 A2 c0 c1 c2 tn st _ false HY.out.1 _ hk hf (M.blk 1 rfl) (H.out.below M.below)) as r W2 ⟨rfl, g1⟩
 clear tR Aa Aq Ac Aw Ad Ap Ae Ah Ab An tX Ba Ag Ak Bc Bb At Af Ay As Au tP Av Ar Aj Ai Bd Ao Ax Az Al Am
 replace M := M.call g1
 clear g1
 obtain ⟨tR, Aa, Aq, Ac, Aw, Ad, Ap, Ae, Ah, Ab, An⟩ := M.f5 0 rfl
 obtain ⟨tX, Ba, Ag, Ak, Bc, Bb, At, Af, Ay, As, Au⟩ := M.f5 1 rfl
 obtain ⟨tP, Av, Ar, Aj, Ai, Bd, Ao, Ax, Az, Al, Am⟩ := M.f5 2 rfl
 go_wp2_with fail
 clear tR Aa Aq Ac Aw Ad Ap Ae Ah Ab An tX Ba Ag Ak Bc Bb At Af Ay As Au tP Av Ar Aj Ai Bd Ao Ax Az Al Am
 have N := M.gset5 0 rfl (.slice none 0 0) (.slice none 0 0) (.slice none 0 0) (.int .i64 0) (.bool false)
 clear M
 obtain ⟨W3, eW, M⟩ := N
 rw [eW]
 clear eW
 simp only [List.set_cons_zero] at M
 obtain ⟨tR, Aa, Ac, Ad, Ae, Ab⟩ := M.q5 0 rfl
 exact bodyPost_ret (v := .tuple #[.agg #[.slice none 0 0, .slice none 0 0, .slice none 0 0, .int .i64 0, .bool false], .bool false]) (by simp [results, Try.results18, go_sem, Aa, Ac, Ad, Ae, Ab]) rfl ⟨none, none, none, 0, 0, 0, rfl, sep_zero M.below⟩
set_option maxHeartbeats 2000000 in
theorem gParkedBy_no (a b c d e : Int) (ts : List T7) (ks : List Int) (fs : List F2) (A0 A1 A2 : Option Addr) (c0 c1 c2 : Nat) (tn : Int) (st : Bool) (id : Int) (pw : Int) (po : Int) (w : World) (ht : ts.length ≤ 1048576) (hk : ks.length ≤ 1048576) (hf : fs.length ≤ 1048576) (h : InPool w ts ks fs A0 A1 A2) (hp : poolB a b c d e ts ks fs tn = true) (hc : isInB ts id 2 = false) :
 Calls Try.prog 18 #[.agg #[.int .i64 a, .int .i64 b, .int .i64 c, .int .i64 d, .int .i64 e], .agg #[.slice A0 ts.length c0, .slice A1 ks.length c1, .slice A2 fs.length c2, .int .i64 tn, .bool st], .int .i64 id, .int .i64 pw, .int .i64 po] w (GaveP ts ks fs tn st false w) := by
 have HY := hide (⟨hp, hc, trivial⟩ : _ ∧ _ ∧ True)
 clear hp hc
 have H := hide h
 clear h
 go_enter Try.func18, Try.ntmps18
 go_wp2_with fail
 generalize hW : ((w.alloc _).alloc _).alloc _ = W1
 have M := Sep.e3 hW
 clear hW
 obtain ⟨tR, Aa, Aq, Ac, Aw, Ad, Ap, Ae, Ah, Ab, An⟩ := M.f5 0 rfl
 obtain ⟨tX, Ba, Ag, Ak, Bc, Bb, At, Af, Ay, As, Au⟩ := M.f5 1 rfl
 obtain ⟨tP, Av, Ar, Aj, Ai, Bd, Ao, Ax, Az, Al, Am⟩ := M.f5 2 rfl
 go_wp2_with fail
 go_call (pright_v a b c d e ts ks fs A0 A1 A2 c0 c1 c2 tn st _ true HY.out.1 _ hk hf (M.blk 1 rfl) (H.out.below M.below)) as r W2 ⟨rfl, g1⟩
 clear tR Aa Aq Ac Aw Ad Ap Ae Ah Ab An tX Ba Ag Ak Bc Bb At Af Ay As Au tP Av Ar Aj Ai Bd Ao Ax Az Al Am
 replace M := M.call g1
 clear g1
 obtain ⟨tR, Aa, Aq, Ac, Aw, Ad, Ap, Ae, Ah, Ab, An⟩ := M.f5 0 rfl
 obtain ⟨tX, Ba, Ag, Ak, Bc, Bb, At, Af, Ay, As, Au⟩ := M.f5 1 rfl
 obtain ⟨tP, Av, Ar, Aj, Ai, Bd, Ao, Ax, Az, Al, Am⟩ := M.f5 2 rfl
 go_wp2_with fail
 go_call (copied_s ts ks fs A0 A1 A2 c0 c1 c2 tn st _ _ ht hk hf (M.blk 1 rfl) (H.out.below M.below)) as r W3 ⟨C0, C1, C2, e0, e1, e2, rfl, g1⟩
 clear tR Aa Aq Ac Aw Ad Ap Ae Ah Ab An tX Ba Ag Ak Bc Bb At Af Ay As Au tP Av Ar Aj Ai Bd Ao Ax Az Al Am
 replace M := Sep.new M g1
 simp only [List.cons_append, List.nil_append] at M
 clear g1
 obtain ⟨tR, Aa, Aq, Ac, Aw, Ad, Ap, Ae, Ah, Ab, An⟩ := M.f5 3 rfl
 obtain ⟨tX, Ba, Ag, Ak, Bc, Bb, At, Af, Ay, As, Au⟩ := M.f5 4 rfl
 obtain ⟨tP, Av, Ar, Aj, Ai, Bd, Ao, Ax, Az, Al, Am⟩ := M.f5 5 rfl
 go_wp2_with fail
 clear tR Aa Aq Ac Aw Ad Ap Ae Ah Ab An tX Ba Ag Ak Bc Bb At Af Ay As Au tP Av Ar Aj Ai Bd Ao Ax Az Al Am
 have N := M.galloc 33 #[.slice C0 ts.length e0, .slice C1 ks.length e1, .slice C2 fs.length e2, .int .i64 tn, .bool st]
 clear M
 obtain ⟨W4, eW, M⟩ := N
 rw [eW]
 clear eW
 obtain ⟨tY, Bm, Bi, Bl, Bf, Bk, Bn, Bj, Bh, Be, Bg⟩ := M.f5 0 rfl
 obtain ⟨tR, Aa, Aq, Ac, Aw, Ad, Ap, Ae, Ah, Ab, An⟩ := M.f5 4 rfl
 obtain ⟨tX, Ba, Ag, Ak, Bc, Bb, At, Af, Ay, As, Au⟩ := M.f5 5 rfl
 obtain ⟨tP, Av, Ar, Aj, Ai, Bd, Ao, Ax, Az, Al, Am⟩ := M.f5 6 rfl
 go_wp2_with fail
 go_call (park_no a b c d e ts C0 C1 C2 e0 ks.length e1 fs.length e2 tn st _ id pw po _ ht (M.blk 0 rfl) (M.rowS 1 rfl) HY.out.2.1) as r W5 ⟨rfl, g1⟩
 clear tY Bm Bi Bl Bf Bk Bn Bj Bh Be Bg tR Aa Aq Ac Aw Ad Ap Ae Ah Ab An tX Ba Ag Ak Bc Bb At Af Ay As Au tP Av Ar Aj Ai Bd Ao Ax Az Al Am
 replace M := M.call g1
 clear g1
 obtain ⟨tY, Bm, Bi, Bl, Bf, Bk, Bn, Bj, Bh, Be, Bg⟩ := M.f5 0 rfl
 obtain ⟨tR, Aa, Aq, Ac, Aw, Ad, Ap, Ae, Ah, Ab, An⟩ := M.f5 4 rfl
 obtain ⟨tX, Ba, Ag, Ak, Bc, Bb, At, Af, Ay, As, Au⟩ := M.f5 5 rfl
 obtain ⟨tP, Av, Ar, Aj, Ai, Bd, Ao, Ax, Az, Al, Am⟩ := M.f5 6 rfl
 go_wp2_with fail
 go_call (copied_s ts ks fs A0 A1 A2 c0 c1 c2 tn st _ _ ht hk hf (M.blk 5 rfl) (H.out.below M.below)) as r W6 ⟨D0, D1, D2, f0, f1, f2, rfl, g1⟩
 clear tY Bm Bi Bl Bf Bk Bn Bj Bh Be Bg tR Aa Aq Ac Aw Ad Ap Ae Ah Ab An tX Ba Ag Ak Bc Bb At Af Ay As Au tP Av Ar Aj Ai Bd Ao Ax Az Al Am
 replace M := Sep.new M g1
 simp only [List.cons_append, List.nil_append] at M
 clear g1
 obtain ⟨tY, Bm, Bi, Bl, Bf, Bk, Bn, Bj, Bh, Be, Bg⟩ := M.f5 3 rfl
 obtain ⟨tR, Aa, Aq, Ac, Aw, Ad, Ap, Ae, Ah, Ab, An⟩ := M.f5 7 rfl
 obtain ⟨tX, Ba, Ag, Ak, Bc, Bb, At, Af, Ay, As, Au⟩ := M.f5 8 rfl
 obtain ⟨tP, Av, Ar, Aj, Ai, Bd, Ao, Ax, Az, Al, Am⟩ := M.f5 9 rfl
 go_wp2_with fail
 clear tY Bm Bi Bl Bf Bk Bn Bj Bh Be Bg tR Aa Aq Ac Aw Ad Ap Ae Ah Ab An tX Ba Ag Ak Bc Bb At Af Ay As Au tP Av Ar Aj Ai Bd Ao Ax Az Al Am
 have N := M.gset5 7 rfl (.slice D0 ts.length f0) (.slice D1 ks.length f1) (.slice D2 fs.length f2) (.int .i64 tn) (.bool st)
 clear M
 obtain ⟨W7, eW, M⟩ := N
 rw [eW]
 clear eW
 simp only [List.set_cons_zero, List.set_cons_succ] at M
 obtain ⟨tR, Aa, Ac, Ad, Ae, Ab⟩ := M.q5 7 rfl
 exact bodyPost_ret (by simp [results, Try.results18, go_sem, Aa, Ac, Ad, Ae, Ab]) rfl ⟨D0, D1, D2, f0, f1, f2, rfl, M.take 3⟩
set_option maxHeartbeats 2000000 in
theorem gParkedBy_yes (a b c d e : Int) (ts : List T7) (ks : List Int) (fs : List F2) (A0 A1 A2 : Option Addr) (c0 c1 c2 : Nat) (tn : Int) (st : Bool) (id : Int) (pw : Int) (po : Int) (w : World) (ht : ts.length ≤ 1048576) (hk : ks.length ≤ 1048576) (hf : fs.length ≤ 1048576) (h : InPool w ts ks fs A0 A1 A2) (hp : poolB a b c d e ts ks fs tn = true) (k : Nat) (s l o1 wt on v t : Int) (hid : id = k) (hts : ts[k]? = some ⟨s, l, o1, wt, on, v, t⟩) (hc : isInB ts k 2 = true) (hz : poolB a b c d e (ts.set k (parkT ⟨s, l, o1, wt, on, v, t⟩ tn pw po)) ks fs (tn + 1) = true) :
 Calls Try.prog 18 #[.agg #[.int .i64 a, .int .i64 b, .int .i64 c, .int .i64 d, .int .i64 e], .agg #[.slice A0 ts.length c0, .slice A1 ks.length c1, .slice A2 fs.length c2, .int .i64 tn, .bool st], .int .i64 id, .int .i64 pw, .int .i64 po] w (GaveP (ts.set k (parkT ⟨s, l, o1, wt, on, v, t⟩ tn pw po)) ks fs (tn + 1) st true w) := by
 have hkl : k < ts.length := by
  rcases Nat.lt_or_ge k ts.length with h1 | h1
  ·exact h1
  ·rw [List.getElem?_eq_none h1] at hts; cases hts
 have tb : 0 ≤ tn ∧ tn ≤ 1000000 := by
  have h1 := hp
  simp only [poolB, Bool.and_eq_true] at h1
  have h2 := h1.2.1
  simp [btw] at h2
  exact h2
 obtain ⟨tb0, tb1⟩ := tb
 subst hid
 have H := hide h
 clear h
 have HY := hide (⟨hp, hts, hc, hz, trivial⟩ : _ ∧ _ ∧ _ ∧ _ ∧ True)
 clear hp hts hc hz
 go_enter Try.func18, Try.ntmps18
 go_wp2_with fail
 generalize hW : ((w.alloc _).alloc _).alloc _ = W1
 have M := Sep.e3 hW
 clear hW
 obtain ⟨tR, Aa, Aq, Ac, Aw, Ad, Ap, Ae, Ah, Ab, An⟩ := M.f5 0 rfl
 obtain ⟨tX, Ba, Ag, Ak, Bc, Bb, At, Af, Ay, As, Au⟩ := M.f5 1 rfl
 obtain ⟨tP, Av, Ar, Aj, Ai, Bd, Ao, Ax, Az, Al, Am⟩ := M.f5 2 rfl
 go_wp2_with fail
 go_call (pright_v a b c d e ts ks fs A0 A1 A2 c0 c1 c2 tn st _ true HY.out.1 _ hk hf (M.blk 1 rfl) (H.out.below M.below)) as r W2 ⟨rfl, g1⟩
 clear tR Aa Aq Ac Aw Ad Ap Ae Ah Ab An tX Ba Ag Ak Bc Bb At Af Ay As Au tP Av Ar Aj Ai Bd Ao Ax Az Al Am
 replace M := M.call g1
 clear g1
 obtain ⟨tR, Aa, Aq, Ac, Aw, Ad, Ap, Ae, Ah, Ab, An⟩ := M.f5 0 rfl
 obtain ⟨tX, Ba, Ag, Ak, Bc, Bb, At, Af, Ay, As, Au⟩ := M.f5 1 rfl
 obtain ⟨tP, Av, Ar, Aj, Ai, Bd, Ao, Ax, Az, Al, Am⟩ := M.f5 2 rfl
 go_wp2_with fail
 go_call (copied_s ts ks fs A0 A1 A2 c0 c1 c2 tn st _ _ ht hk hf (M.blk 1 rfl) (H.out.below M.below)) as r W3 ⟨C0, C1, C2, e0, e1, e2, rfl, g1⟩
 clear tR Aa Aq Ac Aw Ad Ap Ae Ah Ab An tX Ba Ag Ak Bc Bb At Af Ay As Au tP Av Ar Aj Ai Bd Ao Ax Az Al Am
 replace M := Sep.new M g1
 simp only [List.cons_append, List.nil_append] at M
 clear g1
 obtain ⟨tR, Aa, Aq, Ac, Aw, Ad, Ap, Ae, Ah, Ab, An⟩ := M.f5 3 rfl
 obtain ⟨tX, Ba, Ag, Ak, Bc, Bb, At, Af, Ay, As, Au⟩ := M.f5 4 rfl
 obtain ⟨tP, Av, Ar, Aj, Ai, Bd, Ao, Ax, Az, Al, Am⟩ := M.f5 5 rfl
 go_wp2_with fail
 clear tR Aa Aq Ac Aw Ad Ap Ae Ah Ab An tX Ba Ag Ak Bc Bb At Af Ay As Au tP Av Ar Aj Ai Bd Ao Ax Az Al Am
 have N := M.galloc 33 #[.slice C0 ts.length e0, .slice C1 ks.length e1, .slice C2 fs.length e2, .int .i64 tn, .bool st]
 clear M
 obtain ⟨W4, eW, M⟩ := N
 rw [eW]
 clear eW
 obtain ⟨tY, Bm, Bi, Bl, Bf, Bk, Bn, Bj, Bh, Be, Bg⟩ := M.f5 0 rfl
 obtain ⟨tR, Aa, Aq, Ac, Aw, Ad, Ap, Ae, Ah, Ab, An⟩ := M.f5 4 rfl
 obtain ⟨tX, Ba, Ag, Ak, Bc, Bb, At, Af, Ay, As, Au⟩ := M.f5 5 rfl
 obtain ⟨tP, Av, Ar, Aj, Ai, Bd, Ao, Ax, Az, Al, Am⟩ := M.f5 6 rfl
 go_wp2_with fail
 replace M := M.front 3 rfl
 simp only [List.eraseIdx_cons_succ, List.eraseIdx_cons_zero] at M
 replace M := M.front 3 rfl
 simp only [List.eraseIdx_cons_succ, List.eraseIdx_cons_zero] at M
 replace M := M.front 3 rfl
 simp only [List.eraseIdx_cons_succ, List.eraseIdx_cons_zero] at M
 replace M := M.front 3 rfl
 simp only [List.eraseIdx_cons_succ, List.eraseIdx_cons_zero] at M
 have hPk := park_yes a b c d e ts ks fs C0 C1 C2 e0 e1 e2 tn st _ k pw po s l o1 wt on v t _ ht hk hf (by omega) (by omega) HY.out.2.1 (Sep.same (ps := [.blk (W3.heap.size) 33 #[.slice C0 ts.length e0, .slice C1 ks.length e1, .slice C2 fs.length e2, .int .i64 tn, .bool st], rT ts.length C0 e0 ts, rK ks.length C1 e1 ks, rF fs.length C2 e2 fs]) (rs := [.blk (w.heap.size + 2) 33 #[.slice none 0 0, .slice none 0 0, .slice none 0 0, .int .i64 0, .bool false], .blk (w.heap.size + 1) 33 #[.slice A0 ts.length c0, .slice A1 ks.length c1, .slice A2 fs.length c2, .int .i64 tn, .bool st], .blk (w.heap.size) 36 #[.int .i64 a, .int .i64 b, .int .i64 c, .int .i64 d, .int .i64 e]]) M (Below.refl _ _)) HY.out.2.2.1
 rw [HY.out.2.2.2.1] at hPk
 refine Calls.mono (by with_reducible exact hPk) ?_
 clear hPk
 rintro r W5 ⟨rfl, g1⟩
 clear tY Bm Bi Bl Bf Bk Bn Bj Bh Be Bg tR Aa Aq Ac Aw Ad Ap Ae Ah Ab An tX Ba Ag Ak Bc Bb At Af Ay As Au tP Av Ar Aj Ai Bd Ao Ax Az Al Am
 replace M : Sep [] w W5 [.blk (W3.heap.size) 33 #[.slice C0 ts.length e0, .slice C1 ks.length e1, .slice C2 fs.length e2, .int .i64 (tn + 1), .bool st], rT ts.length C0 e0 (ts.set k (parkT ⟨s, l, o1, wt, on, v, t⟩ tn pw po)), rK ks.length C1 e1 ks, rF fs.length C2 e2 fs, .blk (w.heap.size + 2) 33 #[.slice none 0 0, .slice none 0 0, .slice none 0 0, .int .i64 0, .bool false], .blk (w.heap.size + 1) 33 #[.slice A0 ts.length c0, .slice A1 ks.length c1, .slice A2 fs.length c2, .int .i64 tn, .bool st], .blk (w.heap.size) 36 #[.int .i64 a, .int .i64 b, .int .i64 c, .int .i64 d, .int .i64 e]] := Sep.comp (ps := [.blk (W3.heap.size) 33 #[.slice C0 ts.length e0, .slice C1 ks.length e1, .slice C2 fs.length e2, .int .i64 tn, .bool st], rT ts.length C0 e0 ts, rK ks.length C1 e1 ks, rF fs.length C2 e2 fs]) (rs := [.blk (w.heap.size + 2) 33 #[.slice none 0 0, .slice none 0 0, .slice none 0 0, .int .i64 0, .bool false], .blk (w.heap.size + 1) 33 #[.slice A0 ts.length c0, .slice A1 ks.length c1, .slice A2 fs.length c2, .int .i64 tn, .bool st], .blk (w.heap.size) 36 #[.int .i64 a, .int .i64 b, .int .i64 c, .int .i64 d, .int .i64 e]]) M g1
 clear g1
 obtain ⟨tY, Bm, Bi, Bl, Bf, Bk, Bn, Bj, Bh, Be, Bg⟩ := M.f5 0 rfl
 obtain ⟨tR, Aa, Aq, Ac, Aw, Ad, Ap, Ae, Ah, Ab, An⟩ := M.f5 4 rfl
 obtain ⟨tX, Ba, Ag, Ak, Bc, Bb, At, Af, Ay, As, Au⟩ := M.f5 5 rfl
 obtain ⟨tP, Av, Ar, Aj, Ai, Bd, Ao, Ax, Az, Al, Am⟩ := M.f5 6 rfl
 go_wp2_with fail
 clear tY Bm Bi Bl Bf Bk Bn Bj Bh Be Bg tR Aa Aq Ac Aw Ad Ap Ae Ah Ab An tX Ba Ag Ak Bc Bb At Af Ay As Au tP Av Ar Aj Ai Bd Ao Ax Az Al Am
 have N := M.gset5 4 rfl (.slice C0 ts.length e0) (.slice C1 ks.length e1) (.slice C2 fs.length e2) (.int .i64 (tn + 1)) (.bool st)
 clear M
 obtain ⟨W6, eW, M⟩ := N
 rw [eW]
 clear eW
 simp only [List.set_cons_zero, List.set_cons_succ] at M
 obtain ⟨tR, Aa, Ac, Ad, Ae, Ab⟩ := M.q5 4 rfl
 exact bodyPost_ret (v := .tuple #[.agg #[.slice C0 ts.length e0, .slice C1 ks.length e1, .slice C2 fs.length e2, .int .i64 (tn + 1), .bool st], .bool true]) (by simp [results, Try.results18, go_sem, Aa, Ac, Ad, Ae, Ab]) rfl (by have hl : ((ts.set k (parkT ⟨s, l, o1, wt, on, v, t⟩ tn pw po))).length = ts.length := (by simp); unfold GaveP; rw [hl]; exact ⟨C0, C1, C2, e0, e1, e2, rfl, M.tail.take 3⟩)
set_option maxHeartbeats 2000000 in
theorem gParkedBy_full (a b c d e : Int) (ts : List T7) (ks : List Int) (fs : List F2) (A0 A1 A2 : Option Addr) (c0 c1 c2 : Nat) (tn : Int) (st : Bool) (id : Int) (pw : Int) (po : Int) (w : World) (ht : ts.length ≤ 1048576) (hk : ks.length ≤ 1048576) (hf : fs.length ≤ 1048576) (h : InPool w ts ks fs A0 A1 A2) (hp : poolB a b c d e ts ks fs tn = true) (k : Nat) (s l o1 wt on v t : Int) (hid : id = k) (hts : ts[k]? = some ⟨s, l, o1, wt, on, v, t⟩) (hc : isInB ts k 2 = true) (hz : poolB a b c d e (ts.set k (parkT ⟨s, l, o1, wt, on, v, t⟩ tn pw po)) ks fs (tn + 1) = false) :
 Calls Try.prog 18 #[.agg #[.int .i64 a, .int .i64 b, .int .i64 c, .int .i64 d, .int .i64 e], .agg #[.slice A0 ts.length c0, .slice A1 ks.length c1, .slice A2 fs.length c2, .int .i64 tn, .bool st], .int .i64 id, .int .i64 pw, .int .i64 po] w (GaveP ts ks fs tn st false w) := by
 have hkl : k < ts.length := by
  rcases Nat.lt_or_ge k ts.length with h1 | h1
  ·exact h1
  ·rw [List.getElem?_eq_none h1] at hts; cases hts
 have tb : 0 ≤ tn ∧ tn ≤ 1000000 := by
  have h1 := hp
  simp only [poolB, Bool.and_eq_true] at h1
  have h2 := h1.2.1
  simp [btw] at h2
  exact h2
 obtain ⟨tb0, tb1⟩ := tb
 subst hid
 have H := hide h
 clear h
 have HY := hide (⟨hp, hts, hc, hz, trivial⟩ : _ ∧ _ ∧ _ ∧ _ ∧ True)
 clear hp hts hc hz
 go_enter Try.func18, Try.ntmps18
 go_wp2_with fail
 generalize hW : ((w.alloc _).alloc _).alloc _ = W1
 have M := Sep.e3 hW
 clear hW
 obtain ⟨tR, Aa, Aq, Ac, Aw, Ad, Ap, Ae, Ah, Ab, An⟩ := M.f5 0 rfl
 obtain ⟨tX, Ba, Ag, Ak, Bc, Bb, At, Af, Ay, As, Au⟩ := M.f5 1 rfl
 obtain ⟨tP, Av, Ar, Aj, Ai, Bd, Ao, Ax, Az, Al, Am⟩ := M.f5 2 rfl
 go_wp2_with fail
 go_call (pright_v a b c d e ts ks fs A0 A1 A2 c0 c1 c2 tn st _ true HY.out.1 _ hk hf (M.blk 1 rfl) (H.out.below M.below)) as r W2 ⟨rfl, g1⟩
 clear tR Aa Aq Ac Aw Ad Ap Ae Ah Ab An tX Ba Ag Ak Bc Bb At Af Ay As Au tP Av Ar Aj Ai Bd Ao Ax Az Al Am
 replace M := M.call g1
 clear g1
 obtain ⟨tR, Aa, Aq, Ac, Aw, Ad, Ap, Ae, Ah, Ab, An⟩ := M.f5 0 rfl
 obtain ⟨tX, Ba, Ag, Ak, Bc, Bb, At, Af, Ay, As, Au⟩ := M.f5 1 rfl
 obtain ⟨tP, Av, Ar, Aj, Ai, Bd, Ao, Ax, Az, Al, Am⟩ := M.f5 2 rfl
 go_wp2_with fail
 go_call (copied_s ts ks fs A0 A1 A2 c0 c1 c2 tn st _ _ ht hk hf (M.blk 1 rfl) (H.out.below M.below)) as r W3 ⟨C0, C1, C2, e0, e1, e2, rfl, g1⟩
 clear tR Aa Aq Ac Aw Ad Ap Ae Ah Ab An tX Ba Ag Ak Bc Bb At Af Ay As Au tP Av Ar Aj Ai Bd Ao Ax Az Al Am
 replace M := Sep.new M g1
 simp only [List.cons_append, List.nil_append] at M
 clear g1
 obtain ⟨tR, Aa, Aq, Ac, Aw, Ad, Ap, Ae, Ah, Ab, An⟩ := M.f5 3 rfl
 obtain ⟨tX, Ba, Ag, Ak, Bc, Bb, At, Af, Ay, As, Au⟩ := M.f5 4 rfl
 obtain ⟨tP, Av, Ar, Aj, Ai, Bd, Ao, Ax, Az, Al, Am⟩ := M.f5 5 rfl
 go_wp2_with fail
 clear tR Aa Aq Ac Aw Ad Ap Ae Ah Ab An tX Ba Ag Ak Bc Bb At Af Ay As Au tP Av Ar Aj Ai Bd Ao Ax Az Al Am
 have N := M.galloc 33 #[.slice C0 ts.length e0, .slice C1 ks.length e1, .slice C2 fs.length e2, .int .i64 tn, .bool st]
 clear M
 obtain ⟨W4, eW, M⟩ := N
 rw [eW]
 clear eW
 obtain ⟨tY, Bm, Bi, Bl, Bf, Bk, Bn, Bj, Bh, Be, Bg⟩ := M.f5 0 rfl
 obtain ⟨tR, Aa, Aq, Ac, Aw, Ad, Ap, Ae, Ah, Ab, An⟩ := M.f5 4 rfl
 obtain ⟨tX, Ba, Ag, Ak, Bc, Bb, At, Af, Ay, As, Au⟩ := M.f5 5 rfl
 obtain ⟨tP, Av, Ar, Aj, Ai, Bd, Ao, Ax, Az, Al, Am⟩ := M.f5 6 rfl
 go_wp2_with fail
 replace M := M.front 3 rfl
 simp only [List.eraseIdx_cons_succ, List.eraseIdx_cons_zero] at M
 replace M := M.front 3 rfl
 simp only [List.eraseIdx_cons_succ, List.eraseIdx_cons_zero] at M
 replace M := M.front 3 rfl
 simp only [List.eraseIdx_cons_succ, List.eraseIdx_cons_zero] at M
 replace M := M.front 3 rfl
 simp only [List.eraseIdx_cons_succ, List.eraseIdx_cons_zero] at M
 have hPk := park_yes a b c d e ts ks fs C0 C1 C2 e0 e1 e2 tn st _ k pw po s l o1 wt on v t _ ht hk hf (by omega) (by omega) HY.out.2.1 (Sep.same (ps := [.blk (W3.heap.size) 33 #[.slice C0 ts.length e0, .slice C1 ks.length e1, .slice C2 fs.length e2, .int .i64 tn, .bool st], rT ts.length C0 e0 ts, rK ks.length C1 e1 ks, rF fs.length C2 e2 fs]) (rs := [.blk (w.heap.size + 2) 33 #[.slice none 0 0, .slice none 0 0, .slice none 0 0, .int .i64 0, .bool false], .blk (w.heap.size + 1) 33 #[.slice A0 ts.length c0, .slice A1 ks.length c1, .slice A2 fs.length c2, .int .i64 tn, .bool st], .blk (w.heap.size) 36 #[.int .i64 a, .int .i64 b, .int .i64 c, .int .i64 d, .int .i64 e]]) M (Below.refl _ _)) HY.out.2.2.1
 rw [HY.out.2.2.2.1] at hPk
 refine Calls.mono (by with_reducible exact hPk) ?_
 clear hPk
 rintro r W5 ⟨rfl, g1⟩
 clear tY Bm Bi Bl Bf Bk Bn Bj Bh Be Bg tR Aa Aq Ac Aw Ad Ap Ae Ah Ab An tX Ba Ag Ak Bc Bb At Af Ay As Au tP Av Ar Aj Ai Bd Ao Ax Az Al Am
 replace M : Sep [] w W5 [.blk (W3.heap.size) 33 #[.slice C0 ts.length e0, .slice C1 ks.length e1, .slice C2 fs.length e2, .int .i64 (tn + 1), .bool st], rT ts.length C0 e0 (ts.set k (parkT ⟨s, l, o1, wt, on, v, t⟩ tn pw po)), rK ks.length C1 e1 ks, rF fs.length C2 e2 fs, .blk (w.heap.size + 2) 33 #[.slice none 0 0, .slice none 0 0, .slice none 0 0, .int .i64 0, .bool false], .blk (w.heap.size + 1) 33 #[.slice A0 ts.length c0, .slice A1 ks.length c1, .slice A2 fs.length c2, .int .i64 tn, .bool st], .blk (w.heap.size) 36 #[.int .i64 a, .int .i64 b, .int .i64 c, .int .i64 d, .int .i64 e]] := Sep.comp (ps := [.blk (W3.heap.size) 33 #[.slice C0 ts.length e0, .slice C1 ks.length e1, .slice C2 fs.length e2, .int .i64 tn, .bool st], rT ts.length C0 e0 ts, rK ks.length C1 e1 ks, rF fs.length C2 e2 fs]) (rs := [.blk (w.heap.size + 2) 33 #[.slice none 0 0, .slice none 0 0, .slice none 0 0, .int .i64 0, .bool false], .blk (w.heap.size + 1) 33 #[.slice A0 ts.length c0, .slice A1 ks.length c1, .slice A2 fs.length c2, .int .i64 tn, .bool st], .blk (w.heap.size) 36 #[.int .i64 a, .int .i64 b, .int .i64 c, .int .i64 d, .int .i64 e]]) M g1
 clear g1
 obtain ⟨tY, Bm, Bi, Bl, Bf, Bk, Bn, Bj, Bh, Be, Bg⟩ := M.f5 0 rfl
 obtain ⟨tR, Aa, Aq, Ac, Aw, Ad, Ap, Ae, Ah, Ab, An⟩ := M.f5 4 rfl
 obtain ⟨tX, Ba, Ag, Ak, Bc, Bb, At, Af, Ay, As, Au⟩ := M.f5 5 rfl
 obtain ⟨tP, Av, Ar, Aj, Ai, Bd, Ao, Ax, Az, Al, Am⟩ := M.f5 6 rfl
 go_wp2_with fail
 go_call (copied_s ts ks fs A0 A1 A2 c0 c1 c2 tn st _ _ ht hk hf (M.blk 5 rfl) (H.out.below M.below)) as r W6 ⟨D0, D1, D2, f0, f1, f2, rfl, g1⟩
 clear tY Bm Bi Bl Bf Bk Bn Bj Bh Be Bg tR Aa Aq Ac Aw Ad Ap Ae Ah Ab An tX Ba Ag Ak Bc Bb At Af Ay As Au tP Av Ar Aj Ai Bd Ao Ax Az Al Am
 replace M := Sep.new M g1
 simp only [List.cons_append, List.nil_append] at M
 clear g1
 obtain ⟨tY, Bm, Bi, Bl, Bf, Bk, Bn, Bj, Bh, Be, Bg⟩ := M.f5 3 rfl
 obtain ⟨tR, Aa, Aq, Ac, Aw, Ad, Ap, Ae, Ah, Ab, An⟩ := M.f5 7 rfl
 obtain ⟨tX, Ba, Ag, Ak, Bc, Bb, At, Af, Ay, As, Au⟩ := M.f5 8 rfl
 obtain ⟨tP, Av, Ar, Aj, Ai, Bd, Ao, Ax, Az, Al, Am⟩ := M.f5 9 rfl
 go_wp2_with fail
 clear tY Bm Bi Bl Bf Bk Bn Bj Bh Be Bg tR Aa Aq Ac Aw Ad Ap Ae Ah Ab An tX Ba Ag Ak Bc Bb At Af Ay As Au tP Av Ar Aj Ai Bd Ao Ax Az Al Am
 have N := M.gset5 7 rfl (.slice D0 ts.length f0) (.slice D1 ks.length f1) (.slice D2 fs.length f2) (.int .i64 tn) (.bool st)
 clear M
 obtain ⟨W7, eW, M⟩ := N
 rw [eW]
 clear eW
 simp only [List.set_cons_zero, List.set_cons_succ] at M
 obtain ⟨tR, Aa, Ac, Ad, Ae, Ab⟩ := M.q5 7 rfl
 exact bodyPost_ret (by simp [results, Try.results18, go_sem, Aa, Ac, Ad, Ae, Ab]) rfl ⟨D0, D1, D2, f0, f1, f2, rfl, M.take 3⟩
end Go.Proofs.Ytfkdfkoigojciaa
