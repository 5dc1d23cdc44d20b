import Derived.Test.YtfkdfkoigojciaaGreatDoorQU01
import Derived.Laws.CopyRow
import Derived.Laws.IdiomCopy
import Derived.Deep.RegionLaw
import Derived.Deep.RegionHeld3
import Derived.Test.YtfkdfkoigojciaaGreatDoorQU04
import Derived.Test.YtfkdfkoigojciaaGreatDoorQU03
import Derived.Test.YtfkdfkoigojciaaGreatDoorQU05

namespace Go.Proofs.YtfkdfkoigojciaaGreatDoor
open Go.RowKit
set_option linter.unusedVariables false
theorem run_copy_whole {P : Program} (w : World) (dT sT ty elem : TypeId) (size n g dCap : Nat) (sp : Option Addr) (sCap : Nat) (cur : Array Value) (t : TypeId) (cs : List Value) (hu : P.underlying dT = some (.slice elem)) (hs : (P.info? elem).map (·.size) = some size)
 (hg : w.heap[g]? = some (.cells cur t (0, 0))) (hn : cs.length = n * size) (hsrc : Row w sp cs) (hfit : cur.size = cs.length) (h1 : ∀ v ∈ cs, v.oneCell' = true) :
 (Builtin.copy_ #[dT, sT] ty #[.slice (some ⟨g, 0, none⟩) n dCap, .slice sp n sCap]).run P w = .ok (goInt n) (w.setRow g cs.toArray) := by
 cases hq : P.info? elem with
 | none => simp [hq] at hs
 | some i =>
  have hi : i.size = size := by simpa [hq] using hs
  have hst := run_storeCells_at P g 0 t cs 0 cur w hg (by omega) h1
  have hrow : (cur.toList.take (0 + 0) ++ cs ++ cur.toList.drop (0 + 0 + cs.length)).toArray = cs.toArray := by
   rw [List.drop_eq_nil_of_le (by rw [Array.length_toList]; omega)]; simp
  rw [hrow] at hst
  rcases Nat.eq_zero_or_pos cs.length with h0 | h0
  ·obtain rfl : cs = [] := List.eq_nil_of_length_eq_zero h0
   have hz : n * size = 0 := by simpa using hn.symm
   have hl : ∀ (x : Addr), (loadCells x 0).run P w = .ok #[] w := fun x => by simpa using run_loadCells_list (P := P) w x [] (by simp)
   cases sp with
   | none => simp [Builtin.copy_, run_underlying hu, Builtin.lenOf, Builtin.firstCells, sizeOf, typeInfo, hq, hst]
   | some a => simp [Builtin.copy_, run_underlying hu, Builtin.lenOf, Builtin.firstCells, sizeOf, typeInfo, hq, hi, hz, hl, hst]
  ·obtain ⟨b, off, rfl, hc⟩ := hsrc h0
   have hl := run_loadCells_list (P := P) w ⟨b, off, none⟩ cs (fun j v hv => by
    rw [show (⟨b, off, none⟩ : Addr).add j = ⟨b, off + j, none⟩ from by unfold Addr.add; split <;> simp_all]
    exact hc j v hv)
   rw [hn] at hl
   simp [Builtin.copy_, run_underlying hu, Builtin.lenOf, Builtin.firstCells, sizeOf, typeInfo, hq, hi, hl, hst]
theorem setRow_grown (w : World) (g : Nat) (cs : Array Value) : w.grownBy (w.setRow g cs) (some g) :=
 ⟨rfl, rfl, rfl, by simp [World.setRow], fun k _ hk => setRow_other w g k cs (fun e => hk (by rw [e]))⟩
theorem step_copy_whole {P : Program} {ops : Array Oper} {o : Oper} {a : Act} {w : World} {K : Act → World → Prop} {Q : Exit → Act → World → Prop} {E : Prop} (hgd : o.guard = none) (d s : Operand) (dT sT : TypeId)
 (ho : o.op = .call { callee := .builtin .copy, args := #[d, s], argTypes := #[dT, sT] }) (elem : TypeId) (size n g dCap : Nat) (sp : Option Addr) (sCap : Nat) (hu : P.underlying dT = some (.slice elem)) (hs : (P.info? elem).map (·.size) = some size)
 (hd : a.eval d = .slice (some ⟨g, 0, none⟩) n dCap) (hx : a.eval s = .slice sp n sCap)
 (cur : Array Value) (t : TypeId) (hg : Blk w g t cur) (cs : List Value) (hn : cs.length = n * size) (hsrc : Row w sp cs) (hfit : cur.size = cs.length) (h1 : ∀ v ∈ cs, v.oneCell' = true)
 (h : ∀ w', Blk w' g t cs.toArray → w.grownBy w' (some g) → K (a.put o.dst (goInt n)) w') :
 if Region.wanted o (yielded ops a.tmps) = true then Oper.wp P o a w K Q else E := by
 have hw : Region.wanted o (yielded ops a.tmps) = true := by simp [Region.wanted, hgd]
 rw [if_pos hw]
 have hrun := run_copy_whole (P := P) w dT sT o.type elem size n g dCap sp sCap cur t cs hu hs hg hn hsrc hfit h1
 unfold Oper.wp
 simp [execOp, ho, resolve, invoke, builtin, hd, hx, hrun, Result.andThen]
 exact h _ (setRow_heap w g cur _ t _ hg) (setRow_grown w g _)
theorem tcells_one (ts : List T7) : ∀ v ∈ tcells ts, v.oneCell' = true := by
 intro v hv
 obtain ⟨t, _, ht⟩ := List.mem_flatMap.1 hv
 simp only [T7.cs, List.mem_cons, List.not_mem_nil, or_false] at ht
 rcases ht with rfl | rfl | rfl | rfl | rfl | rfl | rfl <;> rfl
theorem fcells_one (fs : List F2) : ∀ v ∈ fcells fs, v.oneCell' = true := by
 intro v hv
 obtain ⟨t, _, ht⟩ := List.mem_flatMap.1 hv
 simp only [F2.cs, List.mem_cons, List.not_mem_nil, or_false] at ht
 rcases ht with rfl | rfl <;> rfl
theorem icells_one (ks : List Int) : ∀ v ∈ icells ks, v.oneCell' = true := by
 intro v hv
 obtain ⟨t, _, rfl⟩ := List.mem_map.1 hv
 rfl
theorem l1Copy_any (ks : List Int) (A : Option Addr) (c : Nat) (w : World) (hlen : ks.length ≤ 1048576) (h : Row w A (icells ks)) :
 Calls Tryz.prog 117 #[.slice A ks.length c] w fun r w' => ∃ (g c' : Nat), r = .returned (.slice (some ⟨g, 0, none⟩) ks.length c') ∧ OwnR w' w.heap.size w'.heap.size 2 1 (.slice (some ⟨g, 0, none⟩) ks.length c') ks.length (icells ks) ∧ Below w.heap.size w w' := by
 have H := hide h
 clear h
 obtain ⟨i0, hi, hz0, hz1, hz2⟩ := info_parts infoInt
 go_enter Tryz.func117, Tryz.ntmps117
 go_wp2_with (at_builtin; refine wpList_append_row rfl (.tmp 3) (.tmp 4) 32 rfl w.heap.size 2 i0 (.int .i64 0) 1 8 Tryz.underlying32 hi hz0 hz1 hz2 rfl (by decide) (.slice (some ⟨w.heap.size, 0, none⟩) 0 0) 0 [] rfl (World.ownsRow_lit (base := w.heap.size) w #[] 0 (Nat.le_refl _) (by simp [maxLen]) (by simp)) _ _ _ (icells ks) rfl (by simp [icells]) (H.out.below (Below.alloc (Below.refl _ _) (Nat.le_refl _) _)) (icells_one _) (by unfold maxLen; omega) (by omega) (by simp) ?_; intro v1 Z1 hown1 hgr1 hiff1; obtain ⟨g1, cap1, hv1, hg1, hg1l⟩ := Own.shape hown1 (fun e => absurd (hiff1.1 e).1 (by simp)); subst hv1)
 go_ret
 have ho : Z1.ownsRow w.heap.size 2 1 (.slice (some ⟨g1, 0, none⟩) ks.length cap1) ks.length (icells ks) := by simpa using hown1
 exact ⟨g1, cap1, by simp, OwnR.of ho (Nat.le_refl _), Below.grown (row := some w.heap.size) (by go_grown) hgr1 (by simp) (by intro r e; injection e; omega)⟩
theorem Blk.at_ {w : World} {t : TypeId} {cs : Array Value} {g : Nat} (h : g = w.heap.size) : Blk (w.alloc (.cells cs t)) g t cs := h ▸ Blk.new w t cs
theorem Blk.grownNe {w w' : World} {t : TypeId} {cs : Array Value} {g a0 : Nat} (h : Blk w g t cs) (hg : w.grownBy w' (some a0)) (hne : g ≠ a0) : Blk w' g t cs := h.grown hg (fun e => hne (by injection e))
theorem kpD {w W : World} {u0 u1 u2 u3 u4 : Value} (h : Below w.heap.size w W ∧ W.cell? ⟨w.heap.size, 0, none⟩ = some u0 ∧ W.cell? ⟨w.heap.size, 1, none⟩ = some u1 ∧ W.cell? ⟨w.heap.size, 2, none⟩ = some u2 ∧ W.cell? ⟨w.heap.size, 3, none⟩ = some u3 ∧ W.cell? ⟨w.heap.size, 4, none⟩ = some u4) : Below w.heap.size w W.drew ∧ W.drew.cell? ⟨w.heap.size, 0, none⟩ = some u0 ∧ W.drew.cell? ⟨w.heap.size, 1, none⟩ = some u1 ∧ W.drew.cell? ⟨w.heap.size, 2, none⟩ = some u2 ∧ W.drew.cell? ⟨w.heap.size, 3, none⟩ = some u3 ∧ W.drew.cell? ⟨w.heap.size, 4, none⟩ = some u4 := ⟨h.1.drew, h.2⟩
theorem kpA {w W : World} {u0 u1 u2 u3 u4 : Value} (hx : w.heap.size < W.heap.size) (h : Below w.heap.size w W ∧ W.cell? ⟨w.heap.size, 0, none⟩ = some u0 ∧ W.cell? ⟨w.heap.size, 1, none⟩ = some u1 ∧ W.cell? ⟨w.heap.size, 2, none⟩ = some u2 ∧ W.cell? ⟨w.heap.size, 3, none⟩ = some u3 ∧ W.cell? ⟨w.heap.size, 4, none⟩ = some u4) (o : Obj) : Below w.heap.size w (W.alloc o) ∧ (W.alloc o).cell? ⟨w.heap.size, 0, none⟩ = some u0 ∧ (W.alloc o).cell? ⟨w.heap.size, 1, none⟩ = some u1 ∧ (W.alloc o).cell? ⟨w.heap.size, 2, none⟩ = some u2 ∧ (W.alloc o).cell? ⟨w.heap.size, 3, none⟩ = some u3 ∧ (W.alloc o).cell? ⟨w.heap.size, 4, none⟩ = some u4 := by
 have hz := h.1.size
 refine ⟨h.1.alloc hz o, ?_, ?_, ?_, ?_, ?_⟩
 all_goals rw [World.cell?_alloc_lt W o _ (show w.heap.size < W.heap.size from hx)]
 ·exact h.2.1
 ·exact h.2.2.1
 ·exact h.2.2.2.1
 ·exact h.2.2.2.2.1
 ·exact h.2.2.2.2.2
theorem kpG {w W W' : World} {u0 u1 u2 u3 u4 : Value} {a0 : Nat} (h : Below w.heap.size w W ∧ W.cell? ⟨w.heap.size, 0, none⟩ = some u0 ∧ W.cell? ⟨w.heap.size, 1, none⟩ = some u1 ∧ W.cell? ⟨w.heap.size, 2, none⟩ = some u2 ∧ W.cell? ⟨w.heap.size, 3, none⟩ = some u3 ∧ W.cell? ⟨w.heap.size, 4, none⟩ = some u4) (hg : W.grownBy W' (some a0)) (ha : w.heap.size + 2 ≤ a0) : Below w.heap.size w W' ∧ W'.cell? ⟨w.heap.size, 0, none⟩ = some u0 ∧ W'.cell? ⟨w.heap.size, 1, none⟩ = some u1 ∧ W'.cell? ⟨w.heap.size, 2, none⟩ = some u2 ∧ W'.cell? ⟨w.heap.size, 3, none⟩ = some u3 ∧ W'.cell? ⟨w.heap.size, 4, none⟩ = some u4 := by
 have hne : ∀ o, some (⟨w.heap.size, o, none⟩ : Addr).block ≠ some a0 := fun o e => by injection e with e; simp at e; omega
 exact ⟨Below.grown h.1 hg h.1.size (by intro g e; injection e with e; omega), hg.cell h.2.1 (hne 0), hg.cell h.2.2.1 (hne 1), hg.cell h.2.2.2.1 (hne 2), hg.cell h.2.2.2.2.1 (hne 3), hg.cell h.2.2.2.2.2 (hne 4)⟩
theorem kpB {w W W' : World} {u0 u1 u2 u3 u4 : Value} (hx : w.heap.size < W.heap.size) (h : Below w.heap.size w W ∧ W.cell? ⟨w.heap.size, 0, none⟩ = some u0 ∧ W.cell? ⟨w.heap.size, 1, none⟩ = some u1 ∧ W.cell? ⟨w.heap.size, 2, none⟩ = some u2 ∧ W.cell? ⟨w.heap.size, 3, none⟩ = some u3 ∧ W.cell? ⟨w.heap.size, 4, none⟩ = some u4) (hb : Below W.heap.size W W') : Below w.heap.size w W' ∧ W'.cell? ⟨w.heap.size, 0, none⟩ = some u0 ∧ W'.cell? ⟨w.heap.size, 1, none⟩ = some u1 ∧ W'.cell? ⟨w.heap.size, 2, none⟩ = some u2 ∧ W'.cell? ⟨w.heap.size, 3, none⟩ = some u3 ∧ W'.cell? ⟨w.heap.size, 4, none⟩ = some u4 :=
 ⟨h.1.trans (hb.mono h.1.size), (hb.cell (p := ⟨w.heap.size, 0, none⟩) hx).trans h.2.1, (hb.cell (p := ⟨w.heap.size, 1, none⟩) hx).trans h.2.2.1, (hb.cell (p := ⟨w.heap.size, 2, none⟩) hx).trans h.2.2.2.1, (hb.cell (p := ⟨w.heap.size, 3, none⟩) hx).trans h.2.2.2.2.1, (hb.cell (p := ⟨w.heap.size, 4, none⟩) hx).trans h.2.2.2.2.2⟩
theorem kpS {w W : World} {u0 u1 u2 u3 u4 : Value} {p : Addr} (h : Below w.heap.size w W ∧ W.cell? ⟨w.heap.size, 0, none⟩ = some u0 ∧ W.cell? ⟨w.heap.size, 1, none⟩ = some u1 ∧ W.cell? ⟨w.heap.size, 2, none⟩ = some u2 ∧ W.cell? ⟨w.heap.size, 3, none⟩ = some u3 ∧ W.cell? ⟨w.heap.size, 4, none⟩ = some u4) (hp : p.block = w.heap.size + 1) (v : Value) : Below w.heap.size w (W.setCell p v) ∧ (W.setCell p v).cell? ⟨w.heap.size, 0, none⟩ = some u0 ∧ (W.setCell p v).cell? ⟨w.heap.size, 1, none⟩ = some u1 ∧ (W.setCell p v).cell? ⟨w.heap.size, 2, none⟩ = some u2 ∧ (W.setCell p v).cell? ⟨w.heap.size, 3, none⟩ = some u3 ∧ (W.setCell p v).cell? ⟨w.heap.size, 4, none⟩ = some u4 := by
 refine ⟨h.1.setCell (by omega) v, ?_, ?_, ?_, ?_, ?_⟩
 all_goals rw [World.cell?_setCell_other W p _ v (fun e => by subst e; simp at hp)]
 ·exact h.2.1
 ·exact h.2.2.1
 ·exact h.2.2.2.1
 ·exact h.2.2.2.2.1
 ·exact h.2.2.2.2.2
theorem kpL {w W : World} {u0 u1 u2 u3 u4 : Value} (h : Below w.heap.size w W ∧ W.cell? ⟨w.heap.size, 0, none⟩ = some u0 ∧ W.cell? ⟨w.heap.size, 1, none⟩ = some u1 ∧ W.cell? ⟨w.heap.size, 2, none⟩ = some u2 ∧ W.cell? ⟨w.heap.size, 3, none⟩ = some u3 ∧ W.cell? ⟨w.heap.size, 4, none⟩ = some u4) : Below w.heap.size w W := h.1
theorem kpX {w W : World} {u0 u1 u2 u3 u4 : Value} (h : Below w.heap.size w W ∧ W.cell? ⟨w.heap.size, 0, none⟩ = some u0 ∧ W.cell? ⟨w.heap.size, 1, none⟩ = some u1 ∧ W.cell? ⟨w.heap.size, 2, none⟩ = some u2 ∧ W.cell? ⟨w.heap.size, 3, none⟩ = some u3 ∧ W.cell? ⟨w.heap.size, 4, none⟩ = some u4) : w.heap.size < W.heap.size := World.block_lt_of_cell? W _ h.2.1
set_option maxRecDepth 100000 in
set_option maxHeartbeats 16000000 in
theorem l3Copy_any (ts : List T7) (ks : List Int) (fs : List F2) (A0 A1 A2 : Option Addr) (c0 c1 c2 : Nat) (tn : Int) (st : Bool) (w : World) (l0 : ts.length ≤ 1048576) (l1 : ks.length ≤ 1048576) (l2 : fs.length ≤ 1048576) (h : InPool w ts ks fs A0 A1 A2) :
 Calls Tryz.prog 54 #[.agg #[.slice A0 ts.length c0, .slice A1 ks.length c1, .slice A2 fs.length c2, .int .i64 tn, .bool st]] w (MadePool w ts ks fs tn st) := by
 have H := hide h
 clear h
 obtain ⟨i1, gi, gz0, gz1, gz2⟩ := info_parts infoFut
 obtain ⟨i2, ji, jz0, jz1, jz2⟩ := info_parts infoTask
 go_enter Tryz.func54, Tryz.ntmps54
 go_wp2_with fail
 have G := Below.refl w.heap.size w
 have kX := Blk.new w 35 #[.slice A0 ts.length c0, .slice A1 ks.length c1, .slice A2 fs.length c2, .int .i64 tn, .bool st]
 have hbs := G.size
 replace G := G.alloc (by omega) (.cells #[.slice A0 ts.length c0, .slice A1 ks.length c1, .slice A2 fs.length c2, .int .i64 tn, .bool st] 35)
 have z1 : (w.alloc (.cells #[.slice A0 ts.length c0, .slice A1 ks.length c1, .slice A2 fs.length c2, .int .i64 tn, .bool st] 35)).heap.size = w.heap.size + 1 := by simp
 clear hbs
 generalize w.alloc (.cells #[.slice A0 ts.length c0, .slice A1 ks.length c1, .slice A2 fs.length c2, .int .i64 tn, .bool st] 35) = W1 at kX G z1 ⊢
 have kR : Blk (W1.alloc (.cells #[.slice none 0 0, .slice none 0 0, .slice none 0 0, .int .i64 0, .bool false] 35)) (w.heap.size + 1) 35 #[.slice none 0 0, .slice none 0 0, .slice none 0 0, .int .i64 0, .bool false] := by
  have h := Blk.new W1 35 #[.slice none 0 0, .slice none 0 0, .slice none 0 0, .int .i64 0, .bool false]
  rw [show W1.heap.size = w.heap.size + 1 by omega] at h
  exact h
 replace kX := kX.alloc (.cells #[.slice none 0 0, .slice none 0 0, .slice none 0 0, .int .i64 0, .bool false] 35)
 have hbs := G.size
 replace G := G.alloc (by omega) (.cells #[.slice none 0 0, .slice none 0 0, .slice none 0 0, .int .i64 0, .bool false] 35)
 have z2 : (W1.alloc (.cells #[.slice none 0 0, .slice none 0 0, .slice none 0 0, .int .i64 0, .bool false] 35)).heap.size = W1.heap.size + 1 := by simp
 clear hbs
 generalize W1.alloc (.cells #[.slice none 0 0, .slice none 0 0, .slice none 0 0, .int .i64 0, .bool false] 35) = W2 at kX kR G z2 ⊢
 obtain ⟨tX, qX0, fX0, qX1, fX1, qX2, fX2, qX3, fX3, qX4, fX4⟩ := kX.f5
 obtain ⟨tR, qR0, fR0, qR1, fR1, qR2, fR2, qR3, fR3, qR4, fR4⟩ := kR.f5
 have hS : Below w.heap.size w W2 ∧ W2.cell? ⟨w.heap.size, 0, none⟩ = some (.slice A0 ts.length c0) ∧ W2.cell? ⟨w.heap.size, 1, none⟩ = some (.slice A1 ks.length c1) ∧ W2.cell? ⟨w.heap.size, 2, none⟩ = some (.slice A2 fs.length c2) ∧ W2.cell? ⟨w.heap.size, 3, none⟩ = some (.int .i64 tn) ∧ W2.cell? ⟨w.heap.size, 4, none⟩ = some (.bool st) := ⟨G, qX0, qX1, qX2, qX3, qX4⟩
 have hsz2 : w.heap.size + 2 ≤ W2.heap.size := by omega
 clear z1 z2 G kX
 have tR1 : w.heap.size + 1 < W2.heap.size + 1 := by omega
 have tR2 : w.heap.size + 1 < W2.heap.size + 1 + 1 := by omega
 go_region_held3 (fun w' => Below w.heap.size w w' ∧ w'.cell? ⟨w.heap.size, 0, none⟩ = some (.slice A0 ts.length c0) ∧ w'.cell? ⟨w.heap.size, 1, none⟩ = some (.slice A1 ks.length c1) ∧ w'.cell? ⟨w.heap.size, 2, none⟩ = some (.slice A2 fs.length c2) ∧ w'.cell? ⟨w.heap.size, 3, none⟩ = some (.int .i64 tn) ∧ w'.cell? ⟨w.heap.size, 4, none⟩ = some (.bool st)) (with_reducible (first | exact kpD hS | exact kpA (kpX (by assumption)) (by assumption) _ | exact kpD (kpA (kpX hS) hS _) | exact kpD (kpA (kpX (kpA (kpX hS) hS _)) (kpA (kpX hS) hS _) _) | exact kpA (kpX (kpA (kpX (by assumption)) (by assumption) _)) (kpA (kpX (by assumption)) (by assumption) _) _ | exact kpG (by assumption) (by assumption) (by first | omega | (simp; done) | (simp; omega)) | exact kpB (kpX (by assumption)) (by assumption) (by assumption) | exact kpS (kpS (kpS (kpS (kpS (by assumption) rfl _) rfl _) rfl _) rfl _) rfl _)) (first | (refine step_append_lit rfl (.tmp 3) (.tmp 5) 31 rfl (w.heap.size + 2) 45 i2 (.agg #[.int .i64 0, .int .i64 0, .int .i64 0, .int .i64 0, .int .i64 0, .int .i64 0, .int .i64 0]) 7 56 Tryz.underlying31 ji jz0 jz1 jz2 rfl (by decide) _ rfl (by (repeat (first | (with_reducible exact kR) | (exact Blk.at_ (by simp)) | (with_reducible refine Blk.drew ?_) | (with_reducible refine Blk.alloc ?_ _) | (refine Blk.below ?_ hb9 (by first | omega | (simp; done) | (simp; omega))) | (refine Blk.grownNe ?_ hg6 (by first | omega | (simp; done) | (simp; omega))) | (refine Blk.grownNe ?_ hg13 (by first | omega | (simp; done) | (simp; omega)))))) (by first | omega | (simp; done) | (simp; omega)) _ _ _ (tcells ts) rfl (tcells_length ts) (Row.below H.out.1 (kpL (by assumption))) (tcells_one ts) (by unfold maxLen; omega) (by omega) ?_; intro g6 e6 w6 lit6 own6 hg6; have s6 := hg6.size; (try simp at s6); have hz6 : w.heap.size + 2 ≤ w6.heap.size := (by omega); have kRw : Blk w6 (w.heap.size + 1) 35 #[.slice none 0 0, .slice none 0 0, .slice none 0 0, .int .i64 0, .bool false] := (by (repeat (first | (with_reducible exact kR) | (exact Blk.at_ (by simp)) | (with_reducible refine Blk.drew ?_) | (with_reducible refine Blk.alloc ?_ _) | (refine Blk.below ?_ hb9 (by first | omega | (simp; done) | (simp; omega))) | (refine Blk.grownNe ?_ hg6 (by first | omega | (simp; done) | (simp; omega))) | (refine Blk.grownNe ?_ hg13 (by first | omega | (simp; done) | (simp; omega)))))); have tR0 : w.heap.size + 1 < w6.heap.size := kRw.lt; have tR1 : w.heap.size + 1 < w6.heap.size + 1 := (by omega); have tR2 : w.heap.size + 1 < w6.heap.size + 1 + 1 := (by omega); have rq0 : w6.cell? ⟨w.heap.size + 1, 0, none⟩ = some (.slice none 0 0) := kRw.cell 0; have rf0 : w6.frozen? ⟨w.heap.size + 1, 0, none⟩ = false := kRw.frozen 0; have rq1 : w6.cell? ⟨w.heap.size + 1, 1, none⟩ = some (.slice none 0 0) := kRw.cell 1; have rf1 : w6.frozen? ⟨w.heap.size + 1, 1, none⟩ = false := kRw.frozen 1; have rq2 : w6.cell? ⟨w.heap.size + 1, 2, none⟩ = some (.slice none 0 0) := kRw.cell 2; have rf2 : w6.frozen? ⟨w.heap.size + 1, 2, none⟩ = false := kRw.frozen 2; have rq3 : w6.cell? ⟨w.heap.size + 1, 3, none⟩ = some (.int .i64 0) := kRw.cell 3; have rf3 : w6.frozen? ⟨w.heap.size + 1, 3, none⟩ = false := kRw.frozen 3; have rq4 : w6.cell? ⟨w.heap.size + 1, 4, none⟩ = some (.bool false) := kRw.cell 4; have rf4 : w6.frozen? ⟨w.heap.size + 1, 4, none⟩ = false := kRw.frozen 4) | (refine step_append_lit rfl (.tmp 10) (.tmp 12) 33 rfl (w.heap.size + 2) 103 i1 (.agg #[.bool false, .int .i64 0]) 2 16 Tryz.underlying33 gi gz0 gz1 gz2 rfl (by decide) _ rfl (by (repeat (first | (with_reducible exact kR) | (exact Blk.at_ (by simp)) | (with_reducible refine Blk.drew ?_) | (with_reducible refine Blk.alloc ?_ _) | (refine Blk.below ?_ hb9 (by first | omega | (simp; done) | (simp; omega))) | (refine Blk.grownNe ?_ hg6 (by first | omega | (simp; done) | (simp; omega))) | (refine Blk.grownNe ?_ hg13 (by first | omega | (simp; done) | (simp; omega)))))) (by first | omega | (simp; done) | (simp; omega)) _ _ _ (fcells fs) rfl (fcells_length fs) (Row.below H.out.2.2 (kpL (by assumption))) (fcells_one fs) (by unfold maxLen; omega) (by omega) ?_; intro g13 e13 w13 lit13 own13 hg13; have s13 := hg13.size; (try simp at s13); have hz13 : w.heap.size + 2 ≤ w13.heap.size := (by omega); have kRw : Blk w13 (w.heap.size + 1) 35 #[.slice none 0 0, .slice none 0 0, .slice none 0 0, .int .i64 0, .bool false] := (by (repeat (first | (with_reducible exact kR) | (exact Blk.at_ (by simp)) | (with_reducible refine Blk.drew ?_) | (with_reducible refine Blk.alloc ?_ _) | (refine Blk.below ?_ hb9 (by first | omega | (simp; done) | (simp; omega))) | (refine Blk.grownNe ?_ hg6 (by first | omega | (simp; done) | (simp; omega))) | (refine Blk.grownNe ?_ hg13 (by first | omega | (simp; done) | (simp; omega)))))); have tR0 : w.heap.size + 1 < w13.heap.size := kRw.lt; have tR1 : w.heap.size + 1 < w13.heap.size + 1 := (by omega); have tR2 : w.heap.size + 1 < w13.heap.size + 1 + 1 := (by omega); have rq0 : w13.cell? ⟨w.heap.size + 1, 0, none⟩ = some (.slice none 0 0) := kRw.cell 0; have rf0 : w13.frozen? ⟨w.heap.size + 1, 0, none⟩ = false := kRw.frozen 0; have rq1 : w13.cell? ⟨w.heap.size + 1, 1, none⟩ = some (.slice none 0 0) := kRw.cell 1; have rf1 : w13.frozen? ⟨w.heap.size + 1, 1, none⟩ = false := kRw.frozen 1; have rq2 : w13.cell? ⟨w.heap.size + 1, 2, none⟩ = some (.slice none 0 0) := kRw.cell 2; have rf2 : w13.frozen? ⟨w.heap.size + 1, 2, none⟩ = false := kRw.frozen 2; have rq3 : w13.cell? ⟨w.heap.size + 1, 3, none⟩ = some (.int .i64 0) := kRw.cell 3; have rf3 : w13.frozen? ⟨w.heap.size + 1, 3, none⟩ = false := kRw.frozen 3; have rq4 : w13.cell? ⟨w.heap.size + 1, 4, none⟩ = some (.bool false) := kRw.cell 4; have rf4 : w13.frozen? ⟨w.heap.size + 1, 4, none⟩ = false := kRw.frozen 4) | (go_at_call 117; refine (l1Copy_any ks A1 c1 _ (by omega) (Row.below H.out.2.1 (kpL (by assumption)))).mono ?_; rintro r w9 ⟨g9, e9, rfl, own9, hb9⟩; have own9 := own9.wide (l2 := w.heap.size + 2) (h2 := w9.heap.size) (by first | omega | (simp; done) | (simp; omega)) (Nat.le_refl _); have s9 := hb9.size; (try simp at s9); have hz9 : w.heap.size + 2 ≤ w9.heap.size := (by omega); have kRw : Blk w9 (w.heap.size + 1) 35 #[.slice none 0 0, .slice none 0 0, .slice none 0 0, .int .i64 0, .bool false] := (by (repeat (first | (with_reducible exact kR) | (exact Blk.at_ (by simp)) | (with_reducible refine Blk.drew ?_) | (with_reducible refine Blk.alloc ?_ _) | (refine Blk.below ?_ hb9 (by first | omega | (simp; done) | (simp; omega))) | (refine Blk.grownNe ?_ hg6 (by first | omega | (simp; done) | (simp; omega))) | (refine Blk.grownNe ?_ hg13 (by first | omega | (simp; done) | (simp; omega)))))); have tR0 : w.heap.size + 1 < w9.heap.size := kRw.lt; have tR1 : w.heap.size + 1 < w9.heap.size + 1 := (by omega); have tR2 : w.heap.size + 1 < w9.heap.size + 1 + 1 := (by omega); have rq0 : w9.cell? ⟨w.heap.size + 1, 0, none⟩ = some (.slice none 0 0) := kRw.cell 0; have rf0 : w9.frozen? ⟨w.heap.size + 1, 0, none⟩ = false := kRw.frozen 0; have rq1 : w9.cell? ⟨w.heap.size + 1, 1, none⟩ = some (.slice none 0 0) := kRw.cell 1; have rf1 : w9.frozen? ⟨w.heap.size + 1, 1, none⟩ = false := kRw.frozen 1; have rq2 : w9.cell? ⟨w.heap.size + 1, 2, none⟩ = some (.slice none 0 0) := kRw.cell 2; have rf2 : w9.frozen? ⟨w.heap.size + 1, 2, none⟩ = false := kRw.frozen 2; have rq3 : w9.cell? ⟨w.heap.size + 1, 3, none⟩ = some (.int .i64 0) := kRw.cell 3; have rf3 : w9.frozen? ⟨w.heap.size + 1, 3, none⟩ = false := kRw.frozen 3; have rq4 : w9.cell? ⟨w.heap.size + 1, 4, none⟩ = some (.bool false) := kRw.cell 4; have rf4 : w9.frozen? ⟨w.heap.size + 1, 4, none⟩ = false := kRw.frozen 4))
 all_goals go_wp2_with fail
 all_goals exact bodyPost_ret (v := (.agg #[.slice (some ⟨g6, 0, none⟩) ts.length e6, .slice (some ⟨g9, 0, none⟩) ks.length e9, .slice (some ⟨g13, 0, none⟩) fs.length e13, .int .i64 tn, .bool st])) (by simp [results, Tryz.results54, go_sem, rq0, rq1, rq2, rq3, rq4]) rfl ⟨_, _, _, _, _, _, rfl, ⟨(OwnR.wide (lo := w.heap.size + 2) (hi := w6.heap.size) (by (repeat (with_reducible first | exact own6 | refine OwnR.store ?_ (.inl (by simp)) _ | refine OwnR.drew ?_ | refine OwnR.alloc ?_ _ | refine OwnR.below ?_ hb9 | refine OwnR.grownT ?_ lit6 (by decide) hg6 | refine OwnR.grownT ?_ lit13 (by decide) hg13))) (by omega) (by first | omega | (simp [World.setCell]; done) | (simp [World.setCell]; omega))), (OwnR.wide (lo := w.heap.size + 2) (hi := w9.heap.size) (by (repeat (with_reducible first | exact own9 | refine OwnR.store ?_ (.inl (by simp)) _ | refine OwnR.drew ?_ | refine OwnR.alloc ?_ _ | refine OwnR.below ?_ hb9 | refine OwnR.grownT ?_ lit6 (by decide) hg6 | refine OwnR.grownT ?_ lit13 (by decide) hg13))) (by omega) (by first | omega | (simp [World.setCell]; done) | (simp [World.setCell]; omega))), (OwnR.wide (lo := w.heap.size + 2) (hi := w13.heap.size) (by (repeat (with_reducible first | exact own13 | refine OwnR.store ?_ (.inl (by simp)) _ | refine OwnR.drew ?_ | refine OwnR.alloc ?_ _ | refine OwnR.below ?_ hb9 | refine OwnR.grownT ?_ lit6 (by decide) hg6 | refine OwnR.grownT ?_ lit13 (by decide) hg13))) (by omega) (by first | omega | (simp [World.setCell]; done) | (simp [World.setCell]; omega)))⟩, kpL (by assumption)⟩
end Go.Proofs.YtfkdfkoigojciaaGreatDoor
