/- The model's Leveled: the way in which the level is changed. Lists no longer than a million. -/
import Derived.Test.YtgncjcnobojgbaaQFnLines16
import Derived.Deep.RegionHeld3

namespace Go.Proofs.Ytgncjcnobojgbaa
open Go.RowKit
set_option linter.unusedVariables false

/-- A store into a row leaves a row of another type as it is. -/
theorem OwnR.storeT {w : World} {lo hi base : Nat} {e e' : TypeId} {size size' n n' c' g : Nat} {v : Value} {xs xs' : List Value} (h : OwnR w lo hi e size v n xs) (ht : w.ownsRow base e' size' (.slice (some ⟨g, 0, none⟩) n' c') n' xs') (hne : e ≠ e') (j : Nat) (u : Value) : OwnR (w.setCell ⟨g, j, none⟩ u) lo hi e size v n xs := by
  refine ⟨h.1.kept (row := some g) ⟨rfl, rfl, rfl, by simp [World.setCell], fun i hi hne => Below.heap_setCell w ⟨g, j, none⟩ u i (by intro e; exact hne (by rw [e]))⟩ ?_, h.2⟩
  rcases hv : v.ownBlock with _ | b
  · exact .inl rfl
  · refine .inr fun he => hne ?_
    injection he with he
    subst he
    rcases ht.2 with ⟨e1, _⟩ | ⟨_, _, _, e1, _, h3, _⟩
    · cases e1
    · injection e1 with e1 _ _
      injection e1 with e1
      injection e1 with e1 _ _
      subst e1
      rcases h.1.2 with ⟨e2, _⟩ | ⟨_, _, _, e2, _, h4, _⟩
      · subst e2; cases hv
      · subst e2
        injection hv with hv
        subst hv
        have h5 := h3.symm.trans h4
        injection h5 with h5
        injection h5 with _ h6 _
        exact h6.symm

/-- Where a call of a drawn region stands: the blocks of the frame and the pool of one's own. -/
structure HS (w : World) (lo hi y : Nat) (P X Y : Array Value) (vT vK vU : Value) (nT nK nU : Nat) (xT xK xU : List Value) (w' : World) : Prop where
  g : Below w.heap.size w w'
  p : Blk w' w.heap.size 28 P
  x : Blk w' (w.heap.size + 1) 34 X
  y : Blk w' y 34 Y
  t : OwnR w' lo hi 46 7 vT nT xT
  k : OwnR w' lo hi 2 1 vK nK xK
  u : OwnR w' lo hi 90 2 vU nU xU
section
variable {w : World} {lo hi y : Nat} {P X Y : Array Value} {vT vK vU : Value} {nT nK nU : Nat} {xT xK xU : List Value} {w' w'' : World}
theorem HS.drew (h : HS w lo hi y P X Y vT vK vU nT nK nU xT xK xU w') : HS w lo hi y P X Y vT vK vU nT nK nU xT xK xU w'.drew := ⟨h.g.drew, h.p.drew, h.x.drew, h.y.drew, h.t.drew, h.k.drew, h.u.drew⟩
theorem HS.call (h : HS w lo hi y P X Y vT vK vU nT nK nU xT xK xU w') (hb : Below w'.heap.size w' w'') : HS w lo hi y P X Y vT vK vU nT nK nU xT xK xU w'' := ⟨h.g.trans (hb.mono h.g.size), h.p.below hb h.p.lt, h.x.below hb h.x.lt, h.y.below hb h.y.lt, h.t.below hb, h.k.below hb, h.u.below hb⟩
theorem HS.store (h : HS w lo hi y P X Y vT vK vU nT nK nU xT xK xU w') {p : Addr} (hp : w.heap.size + 2 ≤ p.block ∧ p.block < lo ∧ p.block < y) (v : Value) : HS w lo hi y P X Y vT vK vU nT nK nU xT xK xU (w'.setCell p v) := ⟨h.g.setCell (by omega) v, h.p.far (show w.heap.size ≠ p.block by omega) v, h.x.far (show w.heap.size + 1 ≠ p.block by omega) v, h.y.far (show y ≠ p.block by omega) v, h.t.store (.inl hp.2.1) v, h.k.store (.inl hp.2.1) v, h.u.store (.inl hp.2.1) v⟩
theorem HS.s5 {r : Nat} {v0 v1 v2 v3 v4 : Value} (h : HS w lo hi y P X Y vT vK vU nT nK nU xT xK xU w') (hr : w.heap.size + 2 ≤ r ∧ r < lo ∧ r < y) : HS w lo hi y P X Y vT vK vU nT nK nU xT xK xU (((((w'.setCell ⟨r, 0, none⟩ v0).setCell ⟨r, 1, none⟩ v1).setCell ⟨r, 2, none⟩ v2).setCell ⟨r, 3, none⟩ v3).setCell ⟨r, 4, none⟩ v4) := ((((h.store hr v0).store hr v1).store hr v2).store hr v3).store hr v4
theorem HS.s7 {r q : Nat} {v0 v1 v2 v3 v4 v5 v6 : Value} (h : HS w lo hi y P X Y vT vK vU nT nK nU xT xK xU w') (hr : w.heap.size + 2 ≤ r ∧ r < lo ∧ r < y) (hq : w.heap.size + 2 ≤ q ∧ q < lo ∧ q < y) : HS w lo hi y P X Y vT vK vU nT nK nU xT xK xU (((((((w'.setCell ⟨r, 0, none⟩ v0).setCell ⟨r, 1, none⟩ v1).setCell ⟨r, 2, none⟩ v2).setCell ⟨r, 3, none⟩ v3).setCell ⟨r, 4, none⟩ v4).setCell ⟨q, 0, none⟩ v5).setCell ⟨q, 1, none⟩ v6) := ((h.s5 hr).store hq v5).store hq v6
theorem HS.full {p0 p1 p2 p3 p4 x0 x1 x2 x3 x4 y0 y1 y2 y3 y4 v : Value} {q : Addr} (hq : w.cell? q = some v) (hb : q.block < w.heap.size) (h : HS w lo hi y #[p0, p1, p2, p3, p4] #[x0, x1, x2, x3, x4] #[y0, y1, y2, y3, y4] vT vK vU nT nK nU xT xK xU w') : HS w lo hi y #[p0, p1, p2, p3, p4] #[x0, x1, x2, x3, x4] #[y0, y1, y2, y3, y4] vT vK vU nT nK nU xT xK xU w' ∧ w'.cell? ⟨w.heap.size, 0, none⟩ = some p0 ∧ w'.cell? ⟨w.heap.size, 1, none⟩ = some p1 ∧ w'.cell? ⟨w.heap.size, 2, none⟩ = some p2 ∧ w'.cell? ⟨w.heap.size, 3, none⟩ = some p3 ∧ w'.cell? ⟨w.heap.size, 4, none⟩ = some p4 ∧ w'.cell? ⟨w.heap.size + 1, 0, none⟩ = some x0 ∧ w'.cell? ⟨w.heap.size + 1, 1, none⟩ = some x1 ∧ w'.cell? ⟨w.heap.size + 1, 2, none⟩ = some x2 ∧ w'.cell? ⟨w.heap.size + 1, 3, none⟩ = some x3 ∧ w'.cell? ⟨w.heap.size + 1, 4, none⟩ = some x4 ∧ w'.cell? ⟨y, 0, none⟩ = some y0 ∧ w'.cell? ⟨y, 1, none⟩ = some y1 ∧ w'.cell? ⟨y, 2, none⟩ = some y2 ∧ w'.cell? ⟨y, 3, none⟩ = some y3 ∧ w'.cell? ⟨y, 4, none⟩ = some y4 ∧ w'.cell? q = some v :=
  ⟨h, h.p.cell 0, h.p.cell 1, h.p.cell 2, h.p.cell 3, h.p.cell 4, h.x.cell 0, h.x.cell 1, h.x.cell 2, h.x.cell 3, h.x.cell 4, h.y.cell 0, h.y.cell 1, h.y.cell 2, h.y.cell 3, h.y.cell 4, (h.g.cell hb).trans hq⟩
end
theorem l6Done_n (a b c d e : Int) (ts : List T7) (ks : List Int) (fs : List F2) (A0 A1 A2 : Option Addr) (c0 c1 c2 : Nat) (tn : Int) (st : Bool) (tsx : List T7) (ksx : List Int) (fsx : List F2) (A0x A1x A2x : Option Addr) (c0x c1x c2x : Nat) (tnx : Int) (stx : Bool) (rp ou : Int) (n lo hi : Nat) (w : World) (hn : tsx.length = n) (ho : poolB a b c d e ts ks fs tn = true) (ht : ts.length ≤ 1048576) (hk : ks.length ≤ 1048576) (hf : fs.length ≤ 1048576) (htx : n ≤ 1048576) (hkx : ksx.length ≤ 1048576) (hfx : fsx.length ≤ 1048576) (hlo : lo ≤ w.heap.size) (hhi : hi ≤ w.heap.size) (h : InPool w ts ks fs A0 A1 A2) (hT : OwnR w lo hi 46 7 (.slice A0x n c0x) n (tcells tsx)) (hK : OwnR w lo hi 2 1 (.slice A1x ksx.length c1x) ksx.length (icells ksx)) (hF : OwnR w lo hi 90 2 (.slice A2x fsx.length c2x) fsx.length (fcells fsx)) :
    Calls Try.prog 93 #[.agg #[.int .i64 a, .int .i64 b, .int .i64 c, .int .i64 d, .int .i64 e], .agg #[.slice A0 ts.length c0, .slice A1 ks.length c1, .slice A2 fs.length c2, .int .i64 tn, .bool st], .agg #[.slice A0x n c0x, .slice A1x ksx.length c1x, .slice A2x fsx.length c2x, .int .i64 tnx, .bool stx], .int .i64 rp, .int .i64 ou] w (GaveO lo w (doneO (poolB a b c d e tsx ksx fsx tnx) ts ks fs tn st tsx ksx fsx tnx stx rp ou)) := by
  subst hn
  exact l6Done_any a b c d e ts ks fs A0 A1 A2 c0 c1 c2 tn st tsx ksx fsx A0x A1x A2x c0x c1x c2x tnx stx rp ou lo hi w ho ht hk hf htx hkx hfx hlo hhi h ⟨hT, hK, hF⟩

set_option maxRecDepth 100000 in
set_option maxHeartbeats 4000000 in
theorem leveled_main (a b c d e : Int) (ts : List T7) (ks : List Int) (fs : List F2) (A0 A1 A2 : Option Addr) (c0 c1 c2 : Nat) (tn : Int) (st : Bool) (wk id lv : Int) (w : World) (ht : ts.length ≤ 1048576) (hk : ks.length ≤ 1048576) (hf : fs.length ≤ 1048576) (h : InPool w ts ks fs A0 A1 A2) (k : Nat) (s l o1 wt on v t : Int) (hid : id = k) (hts : ts[k]? = some ⟨s, l, o1, wt, on, v, t⟩) (hm : mayB a b c d e ts ks fs tn wk = true) (hh : btw id 0 (ts.length - 1) = true) (hl : levelB a b c d e lv = true) (ho : openB s = true) : Calls Try.prog 141 #[.agg #[.int .i64 a, .int .i64 b, .int .i64 c, .int .i64 d, .int .i64 e], .agg #[.slice A0 ts.length c0, .slice A1 ks.length c1, .slice A2 fs.length c2, .int .i64 tn, .bool st], .int .i64 wk, .int .i64 id, .int .i64 lv] w (GaveO w.heap.size w (doneO (poolB a b c d e (ts.set k ⟨s, lv, o1, wt, on, v, t⟩) ks fs tn) ts ks fs tn st (ts.set k ⟨s, lv, o1, wt, on, v, t⟩) ks fs tn st 1 l)) := by
  have H := hide h
  clear h
  subst hid
  have hkl : k < ts.length := by
    rcases Nat.lt_or_ge k ts.length with h1 | h1
    · exact h1
    · rw [List.getElem?_eq_none h1] at hts; cases hts
  obtain ⟨b', off, x0, x1, x2, x3, x4, x5, x6, rfl, _, he, hb', y0, y1, y2, y3, y4, y5, y6⟩ := H.out.1.ts_at hkl
  rw [hts] at he
  injection he with he
  injection he with u0 u1 u2 u3 u4 u5 u6
  subst u0 u1 u2 u3 u4 u5 u6
  have hpo : poolB a b c d e ts ks fs tn = true := by
    have h1 := hm
    simp only [mayB, Bool.and_eq_true] at h1
    exact h1.1
  have hDn : Hid (∀ (g e0 e1 e2 : Nat) (C1 C2 : Option Addr) (lo hi : Nat) (V : World), lo ≤ V.heap.size → hi ≤ V.heap.size → InPool V ts ks fs (some ⟨b', off, none⟩) A1 A2 → OwnR V lo hi 46 7 (.slice (some ⟨g, 0, none⟩) ts.length e0) ts.length (tcells (ts.set k ⟨s, lv, o1, wt, on, v, t⟩)) → OwnR V lo hi 2 1 (.slice C1 ks.length e1) ks.length (icells ks) → OwnR V lo hi 90 2 (.slice C2 fs.length e2) fs.length (fcells fs) → Calls Try.prog 93 #[.agg #[.int .i64 a, .int .i64 b, .int .i64 c, .int .i64 d, .int .i64 e], .agg #[.slice (some ⟨b', off, none⟩) ts.length c0, .slice A1 ks.length c1, .slice A2 fs.length c2, .int .i64 tn, .bool st], .agg #[.slice (some ⟨g, 0, none⟩) ts.length e0, .slice C1 ks.length e1, .slice C2 fs.length e2, .int .i64 tn, .bool st], .int .i64 1, .int .i64 l] V (GaveO lo V (doneO (poolB a b c d e (ts.set k ⟨s, lv, o1, wt, on, v, t⟩) ks fs tn) ts ks fs tn st (ts.set k ⟨s, lv, o1, wt, on, v, t⟩) ks fs tn st 1 l))) := hide (fun g e0 e1 e2 C1 C2 lo hi V h1 h2 h3 h4 h5 h6 => l6Done_n a b c d e ts ks fs (some ⟨b', off, none⟩) A1 A2 c0 c1 c2 tn st (ts.set k ⟨s, lv, o1, wt, on, v, t⟩) ks fs (some ⟨g, 0, none⟩) C1 C2 e0 e1 e2 tn st 1 l ts.length lo hi V (by simp) hpo ht hk hf ht hk hf h1 h2 h3 h4 h5 h6)
  clear hpo
  generalize doneO (poolB a b c d e (ts.set k ⟨s, lv, o1, wt, on, v, t⟩) ks fs tn) ts ks fs tn st (ts.set k ⟨s, lv, o1, wt, on, v, t⟩) ks fs tn st 1 l = o at hDn ⊢
  have y1w := y1
  have HY := hide (⟨hm, hh, hl, hts⟩ : _ ∧ _ ∧ _ ∧ _)
  clear hm hh hl hts
  have HO := hide ho
  clear ho
  go_enter Try.func141, Try.ntmps141
  go_wp2_with fail
  have G := Below.refl w.heap.size w
  have kP := Blk.new w 28 #[.int .i64 a, .int .i64 b, .int .i64 c, .int .i64 d, .int .i64 e]
  have hbs := G.size
  replace G := G.alloc (by omega) (.cells #[.int .i64 a, .int .i64 b, .int .i64 c, .int .i64 d, .int .i64 e] 28)
  have z1 : (w.alloc (.cells #[.int .i64 a, .int .i64 b, .int .i64 c, .int .i64 d, .int .i64 e] 28)).heap.size = w.heap.size + 1 := by simp
  clear hbs
  generalize w.alloc (.cells #[.int .i64 a, .int .i64 b, .int .i64 c, .int .i64 d, .int .i64 e] 28) = W1 at kP G z1 ⊢
  have kX : Blk (W1.alloc (.cells #[.slice (some ⟨b', off, none⟩) ts.length c0, .slice A1 ks.length c1, .slice A2 fs.length c2, .int .i64 tn, .bool st] 34)) (w.heap.size + 1) 34 #[.slice (some ⟨b', off, none⟩) ts.length c0, .slice A1 ks.length c1, .slice A2 fs.length c2, .int .i64 tn, .bool st] := by
    have h := Blk.new W1 34 #[.slice (some ⟨b', off, none⟩) ts.length c0, .slice A1 ks.length c1, .slice A2 fs.length c2, .int .i64 tn, .bool st]
    rw [show W1.heap.size = w.heap.size + 1 by omega] at h
    exact h
  replace kP := kP.alloc (.cells #[.slice (some ⟨b', off, none⟩) ts.length c0, .slice A1 ks.length c1, .slice A2 fs.length c2, .int .i64 tn, .bool st] 34)
  have hbs := G.size
  replace G := G.alloc (by omega) (.cells #[.slice (some ⟨b', off, none⟩) ts.length c0, .slice A1 ks.length c1, .slice A2 fs.length c2, .int .i64 tn, .bool st] 34)
  have z2 : (W1.alloc (.cells #[.slice (some ⟨b', off, none⟩) ts.length c0, .slice A1 ks.length c1, .slice A2 fs.length c2, .int .i64 tn, .bool st] 34)).heap.size = W1.heap.size + 1 := by simp
  clear hbs
  generalize W1.alloc (.cells #[.slice (some ⟨b', off, none⟩) ts.length c0, .slice A1 ks.length c1, .slice A2 fs.length c2, .int .i64 tn, .bool st] 34) = W2 at kP kX G z2 ⊢
  have kR : Blk (W2.alloc (.cells #[.slice none 0 0, .slice none 0 0, .slice none 0 0, .int .i64 0, .bool false] 34)) (w.heap.size + 2) 34 #[.slice none 0 0, .slice none 0 0, .slice none 0 0, .int .i64 0, .bool false] := by
    have h := Blk.new W2 34 #[.slice none 0 0, .slice none 0 0, .slice none 0 0, .int .i64 0, .bool false]
    rw [show W2.heap.size = w.heap.size + 2 by omega] at h
    exact h
  replace kP := kP.alloc (.cells #[.slice none 0 0, .slice none 0 0, .slice none 0 0, .int .i64 0, .bool false] 34)
  replace kX := kX.alloc (.cells #[.slice none 0 0, .slice none 0 0, .slice none 0 0, .int .i64 0, .bool false] 34)
  have hbs := G.size
  replace G := G.alloc (by omega) (.cells #[.slice none 0 0, .slice none 0 0, .slice none 0 0, .int .i64 0, .bool false] 34)
  have z3 : (W2.alloc (.cells #[.slice none 0 0, .slice none 0 0, .slice none 0 0, .int .i64 0, .bool false] 34)).heap.size = W2.heap.size + 1 := by simp
  clear hbs
  generalize W2.alloc (.cells #[.slice none 0 0, .slice none 0 0, .slice none 0 0, .int .i64 0, .bool false] 34) = W3 at kP kX kR G z3 ⊢
  have kS : Blk (W3.alloc (.cells #[.int .i64 0, .int .i64 0] 65)) (w.heap.size + 3) 65 #[.int .i64 0, .int .i64 0] := by
    have h := Blk.new W3 65 #[.int .i64 0, .int .i64 0]
    rw [show W3.heap.size = w.heap.size + 3 by omega] at h
    exact h
  replace kP := kP.alloc (.cells #[.int .i64 0, .int .i64 0] 65)
  replace kX := kX.alloc (.cells #[.int .i64 0, .int .i64 0] 65)
  replace kR := kR.alloc (.cells #[.int .i64 0, .int .i64 0] 65)
  have hbs := G.size
  replace G := G.alloc (by omega) (.cells #[.int .i64 0, .int .i64 0] 65)
  have z4 : (W3.alloc (.cells #[.int .i64 0, .int .i64 0] 65)).heap.size = W3.heap.size + 1 := by simp
  clear hbs
  generalize W3.alloc (.cells #[.int .i64 0, .int .i64 0] 65) = W4 at kP kX kR kS G z4 ⊢
  go_call (l6May_v a b c d e ts ks fs (some ⟨b', off, none⟩) A1 A2 c0 c1 c2 tn st wk true HY.out.1 _ ht hk hf (H.out.below G)) as r W5 ⟨rfl, g1⟩
  have hbs := G.size
  replace kP := kP.below g1 kP.lt
  replace kX := kX.below g1 kX.lt
  replace kR := kR.below g1 kR.lt
  replace kS := kS.below g1 kS.lt
  replace G := G.trans (g1.mono (by omega))
  have z5 := g1.size
  clear g1 hbs
  obtain ⟨tP, qP0, fP0, qP1, fP1, qP2, fP2, qP3, fP3, qP4, fP4⟩ := kP.f5
  obtain ⟨tX, qX0, fX0, qX1, fX1, qX2, fX2, qX3, fX3, qX4, fX4⟩ := kX.f5
  obtain ⟨tR, qR0, fR0, qR1, fR1, qR2, fR2, qR3, fR3, qR4, fR4⟩ := kR.f5
  obtain ⟨tS, qS0, fS0, qS1, fS1⟩ := kS.f2
  go_wp2_with fail
  go_call (l5Has_v ts (some ⟨b', off, none⟩) A1 A2 c0 ks.length c1 fs.length c2 tn st k true HY.out.2.1 _ ht) as r W6 ⟨rfl, g1⟩
  clear tP qP0 fP0 qP1 fP1 qP2 fP2 qP3 fP3 qP4 fP4 tX qX0 fX0 qX1 fX1 qX2 fX2 qX3 fX3 qX4 fX4 tR qR0 fR0 qR1 fR1 qR2 fR2 qR3 fR3 qR4 fR4 tS qS0 fS0 qS1 fS1
  have hbs := G.size
  replace kP := kP.below g1 kP.lt
  replace kX := kX.below g1 kX.lt
  replace kR := kR.below g1 kR.lt
  replace kS := kS.below g1 kS.lt
  replace G := G.trans (g1.mono (by omega))
  have z6 := g1.size
  clear g1 hbs
  obtain ⟨tP, qP0, fP0, qP1, fP1, qP2, fP2, qP3, fP3, qP4, fP4⟩ := kP.f5
  obtain ⟨tX, qX0, fX0, qX1, fX1, qX2, fX2, qX3, fX3, qX4, fX4⟩ := kX.f5
  obtain ⟨tR, qR0, fR0, qR1, fR1, qR2, fR2, qR3, fR3, qR4, fR4⟩ := kR.f5
  obtain ⟨tS, qS0, fS0, qS1, fS1⟩ := kS.f2
  go_wp2_with fail
  go_call (sLevelIn_v a b c d e lv true HY.out.2.2.1 _) as r W7 ⟨rfl, g1⟩
  clear tP qP0 fP0 qP1 fP1 qP2 fP2 qP3 fP3 qP4 fP4 tX qX0 fX0 qX1 fX1 qX2 fX2 qX3 fX3 qX4 fX4 tR qR0 fR0 qR1 fR1 qR2 fR2 qR3 fR3 qR4 fR4 tS qS0 fS0 qS1 fS1
  have hbs := G.size
  replace kP := kP.below g1 kP.lt
  replace kX := kX.below g1 kX.lt
  replace kR := kR.below g1 kR.lt
  replace kS := kS.below g1 kS.lt
  replace G := G.trans (g1.mono (by omega))
  have z7 := g1.size
  clear g1 hbs
  obtain ⟨tP, qP0, fP0, qP1, fP1, qP2, fP2, qP3, fP3, qP4, fP4⟩ := kP.f5
  obtain ⟨tX, qX0, fX0, qX1, fX1, qX2, fX2, qX3, fX3, qX4, fX4⟩ := kX.f5
  obtain ⟨tR, qR0, fR0, qR1, fR1, qR2, fR2, qR3, fR3, qR4, fR4⟩ := kR.f5
  obtain ⟨tS, qS0, fS0, qS1, fS1⟩ := kS.f2
  have ye0 : W7.cell? ⟨b', off + k * 7, none⟩ = some (.int .i64 s) := ((bcell G).1 _ _ hb').trans y0
  have ye1 : W7.cell? ⟨b', off + k * 7 + 1, none⟩ = some (.int .i64 l) := ((bcell G).1 _ _ hb').trans y1
  have ye2 : W7.cell? ⟨b', off + k * 7 + 2, none⟩ = some (.int .i64 o1) := ((bcell G).1 _ _ hb').trans y2
  have ye3 : W7.cell? ⟨b', off + k * 7 + 3, none⟩ = some (.int .i64 wt) := ((bcell G).1 _ _ hb').trans y3
  have ye4 : W7.cell? ⟨b', off + k * 7 + 4, none⟩ = some (.int .i64 on) := ((bcell G).1 _ _ hb').trans y4
  have ye5 : W7.cell? ⟨b', off + k * 7 + 5, none⟩ = some (.int .i64 v) := ((bcell G).1 _ _ hb').trans y5
  have ye6 : W7.cell? ⟨b', off + k * 7 + 6, none⟩ = some (.int .i64 t) := ((bcell G).1 _ _ hb').trans y6
  go_wp2_with fail
  go_call (sIsOpen_any s l o1 wt on v t _) as r W8 ⟨rfl, g1⟩
  clear tP qP0 fP0 qP1 fP1 qP2 fP2 qP3 fP3 qP4 fP4 tX qX0 fX0 qX1 fX1 qX2 fX2 qX3 fX3 qX4 fX4 tR qR0 fR0 qR1 fR1 qR2 fR2 qR3 fR3 qR4 fR4 tS qS0 fS0 qS1 fS1
  have hbs := G.size
  replace kP := kP.below g1 kP.lt
  replace kX := kX.below g1 kX.lt
  replace kR := kR.below g1 kR.lt
  replace kS := kS.below g1 kS.lt
  replace G := G.trans (g1.mono (by omega))
  have z8 := g1.size
  clear g1 hbs
  clear ye0 ye1 ye2 ye3 ye4 ye5 ye6
  rw [HO.out]
  obtain ⟨tP, qP0, fP0, qP1, fP1, qP2, fP2, qP3, fP3, qP4, fP4⟩ := kP.f5
  obtain ⟨tX, qX0, fX0, qX1, fX1, qX2, fX2, qX3, fX3, qX4, fX4⟩ := kX.f5
  obtain ⟨tR, qR0, fR0, qR1, fR1, qR2, fR2, qR3, fR3, qR4, fR4⟩ := kR.f5
  obtain ⟨tS, qS0, fS0, qS1, fS1⟩ := kS.f2
  go_wp2_with fail
  go_call (l3Copy_any ts ks fs (some ⟨b', off, none⟩) A1 A2 c0 c1 c2 tn st _ ht hk hf (H.out.below G)) as r W9 ⟨C0, C1, C2, e0, e1, e2, rfl, own, g1⟩
  clear tP qP0 fP0 qP1 fP1 qP2 fP2 qP3 fP3 qP4 fP4 tX qX0 fX0 qX1 fX1 qX2 fX2 qX3 fX3 qX4 fX4 tR qR0 fR0 qR1 fR1 qR2 fR2 qR3 fR3 qR4 fR4 tS qS0 fS0 qS1 fS1
  have hbs := G.size
  replace kP := kP.below g1 kP.lt
  replace kX := kX.below g1 kX.lt
  replace kR := kR.below g1 kR.lt
  replace kS := kS.below g1 kS.lt
  replace G := G.trans (g1.mono (by omega))
  have z9 := g1.size
  clear g1 hbs
  have rT := own.1
  have rK := own.2.1
  have rU := own.2.2
  clear own
  obtain ⟨g, cap, hv, _, hgl⟩ := rT.1.form (by omega)
  injection hv with hA _ hc
  subst hA hc
  obtain ⟨hg1, hg2⟩ : W8.heap.size ≤ g ∧ g < W9.heap.size := ⟨(rT.1.lt g rfl).1, rT.2 g rfl⟩
  have fz1 : W9.frozen? ⟨g, k * 7 + 1, none⟩ = false := Own.fz rT.1 _
  obtain ⟨s', l', o', wt', on', v', t', ht', y0, y1, y2, y3, y4, y5, y6⟩ := Own.t7 rT.1 hkl
  clear ht' y0 y2 y3 y4 y5 y6
  have hgl1 : g < W9.heap.size := hgl
  have hgl2 : g < W9.heap.size + 1 := by omega
  obtain ⟨tP, qP0, fP0, qP1, fP1, qP2, fP2, qP3, fP3, qP4, fP4⟩ := kP.f5
  obtain ⟨tX, qX0, fX0, qX1, fX1, qX2, fX2, qX3, fX3, qX4, fX4⟩ := kX.f5
  obtain ⟨tR, qR0, fR0, qR1, fR1, qR2, fR2, qR3, fR3, qR4, fR4⟩ := kR.f5
  obtain ⟨tS, qS0, fS0, qS1, fS1⟩ := kS.f2
  go_wp2_with fail
  clear tP qP0 fP0 qP1 fP1 qP2 fP2 qP3 fP3 qP4 fP4 tX qX0 fX0 qX1 fX1 qX2 fX2 qX3 fX3 qX4 fX4 tR qR0 fR0 qR1 fR1 qR2 fR2 qR3 fR3 qR4 fR4 tS qS0 fS0 qS1 fS1
  clear fz1 hgl1 hgl2
  replace kP := kP.far (p := (⟨g, k * 7 + 1, none⟩ : Addr)) (show w.heap.size ≠ g by omega) (.int .i64 lv)
  replace kX := kX.far (p := (⟨g, k * 7 + 1, none⟩ : Addr)) (show w.heap.size + 1 ≠ g by omega) (.int .i64 lv)
  replace kR := kR.far (p := (⟨g, k * 7 + 1, none⟩ : Addr)) (show w.heap.size + 2 ≠ g by omega) (.int .i64 lv)
  replace kS := kS.far (p := (⟨g, k * 7 + 1, none⟩ : Addr)) (show w.heap.size + 3 ≠ g by omega) (.int .i64 lv)
  replace rK := rK.storeT rT.1 (by decide) (k * 7 + 1) (.int .i64 lv)
  replace rU := rU.storeT rT.1 (by decide) (k * 7 + 1) (.int .i64 lv)
  replace rT : OwnR (W9.setCell (⟨g, k * 7 + 1, none⟩ : Addr) (.int .i64 lv)) _ _ _ _ _ _ _ := ⟨Own.put_l rT.1 k s l o1 wt on v t lv HY.out.2.2.2, rT.2⟩
  replace G : Below w.heap.size w (W9.setCell (⟨g, k * 7 + 1, none⟩ : Addr) (.int .i64 lv)) := Below.setCell G (show w.heap.size ≤ g by omega) _
  have z10 : (W9.setCell (⟨g, k * 7 + 1, none⟩ : Addr) (.int .i64 lv)).heap.size = W9.heap.size := by simp [World.setCell]
  have hyz : (W9.setCell (⟨g, k * 7 + 1, none⟩ : Addr) (.int .i64 lv)).heap.size = W9.heap.size := z10
  have kY := Blk.new (W9.setCell (⟨g, k * 7 + 1, none⟩ : Addr) (.int .i64 lv)) 34 #[.slice (some ⟨g, 0, none⟩) ts.length e0, .slice C1 ks.length e1, .slice C2 fs.length e2, .int .i64 tn, .bool st]
  rw [hyz] at kY
  replace kP := kP.alloc (.cells #[.slice (some ⟨g, 0, none⟩) ts.length e0, .slice C1 ks.length e1, .slice C2 fs.length e2, .int .i64 tn, .bool st] 34)
  replace kX := kX.alloc (.cells #[.slice (some ⟨g, 0, none⟩) ts.length e0, .slice C1 ks.length e1, .slice C2 fs.length e2, .int .i64 tn, .bool st] 34)
  replace kR := kR.alloc (.cells #[.slice (some ⟨g, 0, none⟩) ts.length e0, .slice C1 ks.length e1, .slice C2 fs.length e2, .int .i64 tn, .bool st] 34)
  replace kS := kS.alloc (.cells #[.slice (some ⟨g, 0, none⟩) ts.length e0, .slice C1 ks.length e1, .slice C2 fs.length e2, .int .i64 tn, .bool st] 34)
  replace rT := rT.alloc (.cells #[.slice (some ⟨g, 0, none⟩) ts.length e0, .slice C1 ks.length e1, .slice C2 fs.length e2, .int .i64 tn, .bool st] 34)
  replace rK := rK.alloc (.cells #[.slice (some ⟨g, 0, none⟩) ts.length e0, .slice C1 ks.length e1, .slice C2 fs.length e2, .int .i64 tn, .bool st] 34)
  replace rU := rU.alloc (.cells #[.slice (some ⟨g, 0, none⟩) ts.length e0, .slice C1 ks.length e1, .slice C2 fs.length e2, .int .i64 tn, .bool st] 34)
  have hbs := G.size
  replace G := G.alloc (by omega) (.cells #[.slice (some ⟨g, 0, none⟩) ts.length e0, .slice C1 ks.length e1, .slice C2 fs.length e2, .int .i64 tn, .bool st] 34)
  have zV : ((W9.setCell (⟨g, k * 7 + 1, none⟩ : Addr) (.int .i64 lv)).alloc (.cells #[.slice (some ⟨g, 0, none⟩) ts.length e0, .slice C1 ks.length e1, .slice C2 fs.length e2, .int .i64 tn, .bool st] 34)).heap.size = W9.heap.size + 1 := by simp [World.setCell]
  clear hbs hyz z10
  generalize (W9.setCell (⟨g, k * 7 + 1, none⟩ : Addr) (.int .i64 lv)).alloc (.cells #[.slice (some ⟨g, 0, none⟩) ts.length e0, .slice C1 ks.length e1, .slice C2 fs.length e2, .int .i64 tn, .bool st] 34) = V at kP kX kR kS kY rT rK rU G zV ⊢
  have hH0 : HS w W8.heap.size W9.heap.size W9.heap.size #[.int .i64 a, .int .i64 b, .int .i64 c, .int .i64 d, .int .i64 e] #[.slice (some ⟨b', off, none⟩) ts.length c0, .slice A1 ks.length c1, .slice A2 fs.length c2, .int .i64 tn, .bool st] #[.slice (some ⟨g, 0, none⟩) ts.length e0, .slice C1 ks.length e1, .slice C2 fs.length e2, .int .i64 tn, .bool st] (.slice (some ⟨g, 0, none⟩) ts.length e0) (.slice C1 ks.length e1) (.slice C2 fs.length e2) ts.length ks.length fs.length (tcells (ts.set k ⟨s, lv, o1, wt, on, v, t⟩)) (icells ks) (fcells fs) V := ⟨G, kP, kX, kY, rT, rK, rU⟩
  have hlo4 : w.heap.size + 4 ≤ W8.heap.size := by omega
  have hly : W8.heap.size ≤ W9.heap.size := by omega
  have hyV : W9.heap.size < V.heap.size := by omega
  have yq : w.cell? ⟨b', off + k * 7 + 1, none⟩ = some (.int .i64 l) := by rw [Nat.add_assoc]; exact y1w
  have hR3 : w.heap.size + 2 ≤ w.heap.size + 1 + 1 ∧ w.heap.size + 1 + 1 < W8.heap.size ∧ w.heap.size + 1 + 1 < W9.heap.size := by omega
  have hS3 : w.heap.size + 2 ≤ w.heap.size + 1 + 1 + 1 ∧ w.heap.size + 1 + 1 + 1 < W8.heap.size ∧ w.heap.size + 1 + 1 + 1 < W9.heap.size := by omega
  clear kP kX kY rT rK rU G
  have hS := HS.full yq hb' hH0
  go_region_held3 (fun w' : World => HS w W8.heap.size W9.heap.size W9.heap.size #[.int .i64 a, .int .i64 b, .int .i64 c, .int .i64 d, .int .i64 e] #[.slice (some ⟨b', off, none⟩) ts.length c0, .slice A1 ks.length c1, .slice A2 fs.length c2, .int .i64 tn, .bool st] #[.slice (some ⟨g, 0, none⟩) ts.length e0, .slice C1 ks.length e1, .slice C2 fs.length e2, .int .i64 tn, .bool st] (.slice (some ⟨g, 0, none⟩) ts.length e0) (.slice C1 ks.length e1) (.slice C2 fs.length e2) ts.length ks.length fs.length (tcells (ts.set k ⟨s, lv, o1, wt, on, v, t⟩)) (icells ks) (fcells fs) w' ∧ w'.cell? ⟨w.heap.size, 0, none⟩ = some (.int .i64 a) ∧ w'.cell? ⟨w.heap.size, 1, none⟩ = some (.int .i64 b) ∧ w'.cell? ⟨w.heap.size, 2, none⟩ = some (.int .i64 c) ∧ w'.cell? ⟨w.heap.size, 3, none⟩ = some (.int .i64 d) ∧ w'.cell? ⟨w.heap.size, 4, none⟩ = some (.int .i64 e) ∧ w'.cell? ⟨w.heap.size + 1, 0, none⟩ = some (.slice (some ⟨b', off, none⟩) ts.length c0) ∧ w'.cell? ⟨w.heap.size + 1, 1, none⟩ = some (.slice A1 ks.length c1) ∧ w'.cell? ⟨w.heap.size + 1, 2, none⟩ = some (.slice A2 fs.length c2) ∧ w'.cell? ⟨w.heap.size + 1, 3, none⟩ = some (.int .i64 tn) ∧ w'.cell? ⟨w.heap.size + 1, 4, none⟩ = some (.bool st) ∧ w'.cell? ⟨W9.heap.size, 0, none⟩ = some (.slice (some ⟨g, 0, none⟩) ts.length e0) ∧ w'.cell? ⟨W9.heap.size, 1, none⟩ = some (.slice C1 ks.length e1) ∧ w'.cell? ⟨W9.heap.size, 2, none⟩ = some (.slice C2 fs.length e2) ∧ w'.cell? ⟨W9.heap.size, 3, none⟩ = some (.int .i64 tn) ∧ w'.cell? ⟨W9.heap.size, 4, none⟩ = some (.bool st) ∧ w'.cell? ⟨b', off + k * 7 + 1, none⟩ = some (.int .i64 l)) (with_reducible (first | exact HS.full yq hb' (HS.s7 (HS.call (HS.drew hH0) hb9) hR3 hS3) | exact HS.full yq hb' (HS.s5 (HS.call (HS.drew hH0) hb9) hR3) | exact HS.full yq hb' (HS.call (HS.drew hH0) hb9) | exact HS.full yq hb' (HS.drew hH0))) (first | (go_at_call 93; refine (hDn.out g e0 e1 e2 C1 C2 W8.heap.size W9.heap.size _ (by first | omega | (simp; done) | (simp; omega)) (by first | omega | (simp; done) | (simp; omega)) (H.out.below (HS.g ((by (repeat (with_reducible first | exact hH0 | refine HS.drew ?_ | refine HS.call ?_ hb9 | refine HS.store ?_ hR3 _ | refine HS.store ?_ hS3 _)) : HS w W8.heap.size W9.heap.size W9.heap.size #[.int .i64 a, .int .i64 b, .int .i64 c, .int .i64 d, .int .i64 e] #[.slice (some ⟨b', off, none⟩) ts.length c0, .slice A1 ks.length c1, .slice A2 fs.length c2, .int .i64 tn, .bool st] #[.slice (some ⟨g, 0, none⟩) ts.length e0, .slice C1 ks.length e1, .slice C2 fs.length e2, .int .i64 tn, .bool st] (.slice (some ⟨g, 0, none⟩) ts.length e0) (.slice C1 ks.length e1) (.slice C2 fs.length e2) ts.length ks.length fs.length (tcells (ts.set k ⟨s, lv, o1, wt, on, v, t⟩)) (icells ks) (fcells fs) _)))) (HS.t ((by (repeat (with_reducible first | exact hH0 | refine HS.drew ?_ | refine HS.call ?_ hb9 | refine HS.store ?_ hR3 _ | refine HS.store ?_ hS3 _)) : HS w W8.heap.size W9.heap.size W9.heap.size #[.int .i64 a, .int .i64 b, .int .i64 c, .int .i64 d, .int .i64 e] #[.slice (some ⟨b', off, none⟩) ts.length c0, .slice A1 ks.length c1, .slice A2 fs.length c2, .int .i64 tn, .bool st] #[.slice (some ⟨g, 0, none⟩) ts.length e0, .slice C1 ks.length e1, .slice C2 fs.length e2, .int .i64 tn, .bool st] (.slice (some ⟨g, 0, none⟩) ts.length e0) (.slice C1 ks.length e1) (.slice C2 fs.length e2) ts.length ks.length fs.length (tcells (ts.set k ⟨s, lv, o1, wt, on, v, t⟩)) (icells ks) (fcells fs) _))) (HS.k ((by (repeat (with_reducible first | exact hH0 | refine HS.drew ?_ | refine HS.call ?_ hb9 | refine HS.store ?_ hR3 _ | refine HS.store ?_ hS3 _)) : HS w W8.heap.size W9.heap.size W9.heap.size #[.int .i64 a, .int .i64 b, .int .i64 c, .int .i64 d, .int .i64 e] #[.slice (some ⟨b', off, none⟩) ts.length c0, .slice A1 ks.length c1, .slice A2 fs.length c2, .int .i64 tn, .bool st] #[.slice (some ⟨g, 0, none⟩) ts.length e0, .slice C1 ks.length e1, .slice C2 fs.length e2, .int .i64 tn, .bool st] (.slice (some ⟨g, 0, none⟩) ts.length e0) (.slice C1 ks.length e1) (.slice C2 fs.length e2) ts.length ks.length fs.length (tcells (ts.set k ⟨s, lv, o1, wt, on, v, t⟩)) (icells ks) (fcells fs) _))) (HS.u ((by (repeat (with_reducible first | exact hH0 | refine HS.drew ?_ | refine HS.call ?_ hb9 | refine HS.store ?_ hR3 _ | refine HS.store ?_ hS3 _)) : HS w W8.heap.size W9.heap.size W9.heap.size #[.int .i64 a, .int .i64 b, .int .i64 c, .int .i64 d, .int .i64 e] #[.slice (some ⟨b', off, none⟩) ts.length c0, .slice A1 ks.length c1, .slice A2 fs.length c2, .int .i64 tn, .bool st] #[.slice (some ⟨g, 0, none⟩) ts.length e0, .slice C1 ks.length e1, .slice C2 fs.length e2, .int .i64 tn, .bool st] (.slice (some ⟨g, 0, none⟩) ts.length e0) (.slice C1 ks.length e1) (.slice C2 fs.length e2) ts.length ks.length fs.length (tcells (ts.set k ⟨s, lv, o1, wt, on, v, t⟩)) (icells ks) (fcells fs) _)))).mono ?_; rintro r w9 ⟨B0, B1, B2, d0, d1, d2, rfl, own9, hb9⟩; have s9 := hb9.size; (try simp at s9); have kRw : Blk w9 (w.heap.size + 2) 34 #[.slice none 0 0, .slice none 0 0, .slice none 0 0, .int .i64 0, .bool false] := (by (repeat (first | (with_reducible exact kR) | (with_reducible refine Blk.drew ?_) | (refine Blk.below ?_ hb9 (by first | omega | (simp; done) | (simp; omega)))))); have tR0 : w.heap.size + 2 < w9.heap.size := kRw.lt; have qR0 : w9.cell? ⟨w.heap.size + 2, 0, none⟩ = some (.slice none 0 0) := kRw.cell 0; have fR0 : w9.frozen? ⟨w.heap.size + 2, 0, none⟩ = false := kRw.frozen 0; have qR1 : w9.cell? ⟨w.heap.size + 2, 1, none⟩ = some (.slice none 0 0) := kRw.cell 1; have fR1 : w9.frozen? ⟨w.heap.size + 2, 1, none⟩ = false := kRw.frozen 1; have qR2 : w9.cell? ⟨w.heap.size + 2, 2, none⟩ = some (.slice none 0 0) := kRw.cell 2; have fR2 : w9.frozen? ⟨w.heap.size + 2, 2, none⟩ = false := kRw.frozen 2; have qR3 : w9.cell? ⟨w.heap.size + 2, 3, none⟩ = some (.int .i64 0) := kRw.cell 3; have fR3 : w9.frozen? ⟨w.heap.size + 2, 3, none⟩ = false := kRw.frozen 3; have qR4 : w9.cell? ⟨w.heap.size + 2, 4, none⟩ = some (.bool false) := kRw.cell 4; have fR4 : w9.frozen? ⟨w.heap.size + 2, 4, none⟩ = false := kRw.frozen 4; have kSw : Blk w9 (w.heap.size + 3) 65 #[.int .i64 0, .int .i64 0] := (by (repeat (first | (with_reducible exact kS) | (with_reducible refine Blk.drew ?_) | (refine Blk.below ?_ hb9 (by first | omega | (simp; done) | (simp; omega)))))); have tS0 : w.heap.size + 3 < w9.heap.size := kSw.lt; have qS0 : w9.cell? ⟨w.heap.size + 3, 0, none⟩ = some (.int .i64 0) := kSw.cell 0; have fS0 : w9.frozen? ⟨w.heap.size + 3, 0, none⟩ = false := kSw.frozen 0; have qS1 : w9.cell? ⟨w.heap.size + 3, 1, none⟩ = some (.int .i64 0) := kSw.cell 1; have fS1 : w9.frozen? ⟨w.heap.size + 3, 1, none⟩ = false := kSw.frozen 1))
  all_goals go_wp2_with fail
  all_goals exact bodyPost_ret (v := .tuple #[.agg #[.slice B0 o.ts.length d0, .slice B1 o.ks.length d1, .slice B2 o.fs.length d2, .int .i64 o.tn, .bool o.st], .agg #[.int .i64 o.rp, .int .i64 o.ou]]) (by simp [results, Try.results141, go_sem, qR0, qR1, qR2, qR3, qR4, qS0, qS1]) rfl ⟨B0, B1, B2, d0, d1, d2, rfl, (OwnPool.wide (lo := W8.heap.size) (hi := w9.heap.size) (OwnPool.store (p := ⟨w.heap.size + 1 + 1 + 1, 1, none⟩) (OwnPool.store (p := ⟨w.heap.size + 1 + 1 + 1, 0, none⟩) (OwnPool.store (p := ⟨w.heap.size + 1 + 1, 4, none⟩) (OwnPool.store (p := ⟨w.heap.size + 1 + 1, 3, none⟩) (OwnPool.store (p := ⟨w.heap.size + 1 + 1, 2, none⟩) (OwnPool.store (p := ⟨w.heap.size + 1 + 1, 1, none⟩) (OwnPool.store (p := ⟨w.heap.size + 1 + 1, 0, none⟩) own9 (.inl hR3.2.1) _) (.inl hR3.2.1) _) (.inl hR3.2.1) _) (.inl hR3.2.1) _) (.inl hR3.2.1) _) (.inl hS3.2.1) _) (.inl hS3.2.1) _) (by omega) (by simp [World.setCell])), HS.g (HS.s7 (HS.call (HS.drew hH0) hb9) hR3 hS3)⟩
end Go.Proofs.Ytgncjcnobojgbaa
