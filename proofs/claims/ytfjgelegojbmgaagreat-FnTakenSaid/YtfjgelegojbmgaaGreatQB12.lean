/- The model's waking and parking of one task in a pool of one's own; whether there is such a task. The turn within a billion. -/
import Derived.Test.YtfjgelegojbmgaaGreatQB04
import Derived.Test.YtfjgelegojbmgaaGreatQB02

namespace Go.Proofs.YtfjgelegojbmgaaGreat
open Go.RowKit
set_option linter.unusedVariables false
set_option maxRecDepth 100000
def wakeT (t : T7) (tn v : Int) : T7 := ⟨1, t.l, t.o, 0, 0, v, tn⟩
def parkT (t : T7) (tn wt on : Int) : T7 := ⟨3, t.l, -1, wt, on, t.v, tn⟩
set_option maxHeartbeats 4000000 in
theorem l5Wake_any (ts : List T7) (A0 A1 A2 : Option Addr) (c0 n1 c1 n2 c2 : Nat) (tn : Int) (st : Bool) (k : Nat) (s l o wt on v0 t : Int) (v : Int) (lo hi : Nat) (w : World) (hhi : hi ≤ w.heap.size) (hlen : ts.length ≤ 1048576) (t0 : -1000000000 ≤ tn) (t1 : tn ≤ 1000000000) (ht : ts[k]? = some ⟨s, l, o, wt, on, v0, t⟩) (h : OwnR w lo hi 44 7 (.slice A0 ts.length c0) ts.length (tcells ts)) :
 Calls Tryz.prog 51 #[.agg #[.slice A0 ts.length c0, .slice A1 n1 c1, .slice A2 n2 c2, .int .i64 tn, .bool st], .int .i64 k, .int .i64 v] w fun r w' => r = .returned (.agg #[.slice A0 ts.length c0, .slice A1 n1 c1, .slice A2 n2 c2, .int .i64 (tn + 1), .bool st]) ∧ OwnR w' lo hi 44 7 (.slice A0 ts.length c0) ts.length (tcells (ts.set k (wakeT ⟨s, l, o, wt, on, v0, t⟩ tn v))) ∧ Within lo hi w w' := by
 have hk : k < ts.length := by
  rcases Nat.lt_or_ge k ts.length with h1 | h1
  ·exact h1
  ·rw [List.getElem?_eq_none h1] at ht; cases ht
 obtain ⟨g, cap, hv, _, hgl⟩ := h.1.form (by omega)
 injection hv with hA _ hc
 subst hA hc
 obtain ⟨hg1, hg2⟩ : lo ≤ g ∧ g < hi := ⟨(h.1.lt g rfl).1, h.2 g rfl⟩
 obtain ⟨s', l', o', wt', on', v', t', ht', y0, y1, y2, y3, y4, y5, y6⟩ := Own.t7 h.1 hk
 rw [ht] at ht'
 injection ht' with ht'
 injection ht' with u0 u1 u2 u3 u4 u5 u6
 subst u0 u1 u2 u3 u4 u5 u6
 have rT := h
 have fz0 : w.frozen? ⟨g, k * 7, none⟩ = false := Own.fz h.1 _
 have fz1 : w.frozen? ⟨g, k * 7 + 1, none⟩ = false := Own.fz h.1 _
 have fz2 : w.frozen? ⟨g, k * 7 + 2, none⟩ = false := Own.fz h.1 _
 have fz3 : w.frozen? ⟨g, k * 7 + 3, none⟩ = false := Own.fz h.1 _
 have fz4 : w.frozen? ⟨g, k * 7 + 4, none⟩ = false := Own.fz h.1 _
 have fz5 : w.frozen? ⟨g, k * 7 + 5, none⟩ = false := Own.fz h.1 _
 have fz6 : w.frozen? ⟨g, k * 7 + 6, none⟩ = false := Own.fz h.1 _
 have hgl2 : g < w.heap.size := hgl
 have hgl3 : g < w.heap.size + 1 := by omega
 have hgl4 : g < w.heap.size + 1 + 1 := by omega
 have hgl5 : g < w.heap.size + 1 + 1 + 1 := by omega
 clear ht h
 go_enter Tryz.func51, Tryz.ntmps51
 go_wp2_with fail
 have G := Within.refl lo hi w
 replace rT : OwnR (((((((w.setCell ⟨g, k * 7, none⟩ (.int .i64 1)).setCell ⟨g, k * 7 + 1, none⟩ (.int .i64 l)).setCell ⟨g, k * 7 + 2, none⟩ (.int .i64 o)).setCell ⟨g, k * 7 + 3, none⟩ (.int .i64 0)).setCell ⟨g, k * 7 + 4, none⟩ (.int .i64 0)).setCell ⟨g, k * 7 + 5, none⟩ (.int .i64 v)).setCell ⟨g, k * 7 + 6, none⟩ (.int .i64 tn)) _ _ _ _ _ _ _ := ⟨Own.put7 rT.1 k 1 l o 0 0 v tn, rT.2⟩
 replace G := (Within.setIn (Within.setIn (Within.setIn (Within.setIn (Within.setIn (Within.setIn (Within.setIn G (p := ⟨g, k * 7, none⟩) (show lo ≤ g ∧ g < hi by omega) (.int .i64 1)) (p := ⟨g, k * 7 + 1, none⟩) (show lo ≤ g ∧ g < hi by omega) (.int .i64 l)) (p := ⟨g, k * 7 + 2, none⟩) (show lo ≤ g ∧ g < hi by omega) (.int .i64 o)) (p := ⟨g, k * 7 + 3, none⟩) (show lo ≤ g ∧ g < hi by omega) (.int .i64 0)) (p := ⟨g, k * 7 + 4, none⟩) (show lo ≤ g ∧ g < hi by omega) (.int .i64 0)) (p := ⟨g, k * 7 + 5, none⟩) (show lo ≤ g ∧ g < hi by omega) (.int .i64 v)) (p := ⟨g, k * 7 + 6, none⟩) (show lo ≤ g ∧ g < hi by omega) (.int .i64 tn))
 have z1 : ((((((((w.setCell ⟨g, k * 7, none⟩ (.int .i64 1)).setCell ⟨g, k * 7 + 1, none⟩ (.int .i64 l)).setCell ⟨g, k * 7 + 2, none⟩ (.int .i64 o)).setCell ⟨g, k * 7 + 3, none⟩ (.int .i64 0)).setCell ⟨g, k * 7 + 4, none⟩ (.int .i64 0)).setCell ⟨g, k * 7 + 5, none⟩ (.int .i64 v)).setCell ⟨g, k * 7 + 6, none⟩ (.int .i64 tn))).heap.size = w.heap.size := by simp [World.setCell]
 generalize ((((((w.setCell ⟨g, k * 7, none⟩ (.int .i64 1)).setCell ⟨g, k * 7 + 1, none⟩ (.int .i64 l)).setCell ⟨g, k * 7 + 2, none⟩ (.int .i64 o)).setCell ⟨g, k * 7 + 3, none⟩ (.int .i64 0)).setCell ⟨g, k * 7 + 4, none⟩ (.int .i64 0)).setCell ⟨g, k * 7 + 5, none⟩ (.int .i64 v)).setCell ⟨g, k * 7 + 6, none⟩ (.int .i64 tn) = W1 at rT G z1 ⊢
 have kX : Blk (W1.alloc (.cells #[.slice (some ⟨g, 0, none⟩) ts.length c0, .slice A1 n1 c1, .slice A2 n2 c2, .int .i64 (tn + 1), .bool st] 30)) (w.heap.size) 30 #[.slice (some ⟨g, 0, none⟩) ts.length c0, .slice A1 n1 c1, .slice A2 n2 c2, .int .i64 (tn + 1), .bool st] := by
  have h := Blk.new W1 30 #[.slice (some ⟨g, 0, none⟩) ts.length c0, .slice A1 n1 c1, .slice A2 n2 c2, .int .i64 (tn + 1), .bool st]
  rw [show W1.heap.size = w.heap.size by omega] at h
  exact h
 replace rT := rT.alloc (.cells #[.slice (some ⟨g, 0, none⟩) ts.length c0, .slice A1 n1 c1, .slice A2 n2 c2, .int .i64 (tn + 1), .bool st] 30)
 have hbs := G.size
 replace G := G.alloc (by omega) (.cells #[.slice (some ⟨g, 0, none⟩) ts.length c0, .slice A1 n1 c1, .slice A2 n2 c2, .int .i64 (tn + 1), .bool st] 30)
 have z2 : (W1.alloc (.cells #[.slice (some ⟨g, 0, none⟩) ts.length c0, .slice A1 n1 c1, .slice A2 n2 c2, .int .i64 (tn + 1), .bool st] 30)).heap.size = W1.heap.size + 1 := by simp
 clear hbs
 generalize W1.alloc (.cells #[.slice (some ⟨g, 0, none⟩) ts.length c0, .slice A1 n1 c1, .slice A2 n2 c2, .int .i64 (tn + 1), .bool st] 30) = W2 at kX rT G z2 ⊢
 have kR : Blk (W2.alloc (.cells #[.slice (some ⟨g, 0, none⟩) ts.length c0, .slice A1 n1 c1, .slice A2 n2 c2, .int .i64 (tn + 1), .bool st] 30)) (w.heap.size + 1) 30 #[.slice (some ⟨g, 0, none⟩) ts.length c0, .slice A1 n1 c1, .slice A2 n2 c2, .int .i64 (tn + 1), .bool st] := by
  have h := Blk.new W2 30 #[.slice (some ⟨g, 0, none⟩) ts.length c0, .slice A1 n1 c1, .slice A2 n2 c2, .int .i64 (tn + 1), .bool st]
  rw [show W2.heap.size = w.heap.size + 1 by omega] at h
  exact h
 replace kX := kX.alloc (.cells #[.slice (some ⟨g, 0, none⟩) ts.length c0, .slice A1 n1 c1, .slice A2 n2 c2, .int .i64 (tn + 1), .bool st] 30)
 replace rT := rT.alloc (.cells #[.slice (some ⟨g, 0, none⟩) ts.length c0, .slice A1 n1 c1, .slice A2 n2 c2, .int .i64 (tn + 1), .bool st] 30)
 have hbs := G.size
 replace G := G.alloc (by omega) (.cells #[.slice (some ⟨g, 0, none⟩) ts.length c0, .slice A1 n1 c1, .slice A2 n2 c2, .int .i64 (tn + 1), .bool st] 30)
 have z3 : (W2.alloc (.cells #[.slice (some ⟨g, 0, none⟩) ts.length c0, .slice A1 n1 c1, .slice A2 n2 c2, .int .i64 (tn + 1), .bool st] 30)).heap.size = W2.heap.size + 1 := by simp
 clear hbs
 generalize W2.alloc (.cells #[.slice (some ⟨g, 0, none⟩) ts.length c0, .slice A1 n1 c1, .slice A2 n2 c2, .int .i64 (tn + 1), .bool st] 30) = W3 at kX kR rT G z3 ⊢
 have kT : Blk (W3.alloc (.cells #[.int .i64 1, .int .i64 l, .int .i64 o, .int .i64 0, .int .i64 0, .int .i64 v, .int .i64 tn] 44)) (w.heap.size + 2) 44 #[.int .i64 1, .int .i64 l, .int .i64 o, .int .i64 0, .int .i64 0, .int .i64 v, .int .i64 tn] := by
  have h := Blk.new W3 44 #[.int .i64 1, .int .i64 l, .int .i64 o, .int .i64 0, .int .i64 0, .int .i64 v, .int .i64 tn]
  rw [show W3.heap.size = w.heap.size + 2 by omega] at h
  exact h
 replace kX := kX.alloc (.cells #[.int .i64 1, .int .i64 l, .int .i64 o, .int .i64 0, .int .i64 0, .int .i64 v, .int .i64 tn] 44)
 replace kR := kR.alloc (.cells #[.int .i64 1, .int .i64 l, .int .i64 o, .int .i64 0, .int .i64 0, .int .i64 v, .int .i64 tn] 44)
 replace rT := rT.alloc (.cells #[.int .i64 1, .int .i64 l, .int .i64 o, .int .i64 0, .int .i64 0, .int .i64 v, .int .i64 tn] 44)
 have hbs := G.size
 replace G := G.alloc (by omega) (.cells #[.int .i64 1, .int .i64 l, .int .i64 o, .int .i64 0, .int .i64 0, .int .i64 v, .int .i64 tn] 44)
 have z4 : (W3.alloc (.cells #[.int .i64 1, .int .i64 l, .int .i64 o, .int .i64 0, .int .i64 0, .int .i64 v, .int .i64 tn] 44)).heap.size = W3.heap.size + 1 := by simp
 clear hbs
 generalize W3.alloc (.cells #[.int .i64 1, .int .i64 l, .int .i64 o, .int .i64 0, .int .i64 0, .int .i64 v, .int .i64 tn] 44) = W4 at kX kR kT rT G z4 ⊢
 have tR : w.heap.size + 1 < W4.heap.size := kR.lt
 have qR0 : W4.cell? ⟨w.heap.size + 1, 0, none⟩ = some (.slice (some ⟨g, 0, none⟩) ts.length c0) := kR.cell 0
 have qR1 : W4.cell? ⟨w.heap.size + 1, 1, none⟩ = some (.slice A1 n1 c1) := kR.cell 1
 have qR2 : W4.cell? ⟨w.heap.size + 1, 2, none⟩ = some (.slice A2 n2 c2) := kR.cell 2
 have qR3 : W4.cell? ⟨w.heap.size + 1, 3, none⟩ = some (.int .i64 (tn + 1)) := kR.cell 3
 have qR4 : W4.cell? ⟨w.heap.size + 1, 4, none⟩ = some (.bool st) := kR.cell 4
 exact bodyPost_ret (v := .agg #[.slice (some ⟨g, 0, none⟩) ts.length c0, .slice A1 n1 c1, .slice A2 n2 c2, .int .i64 (tn + 1), .bool st]) (by simp [results, Tryz.results51, go_sem, qR0, qR1, qR2, qR3, qR4]) rfl ⟨rfl, rT, G⟩
set_option maxHeartbeats 4000000 in
theorem l5Park_any (ts : List T7) (A0 A1 A2 : Option Addr) (c0 n1 c1 n2 c2 : Nat) (tn : Int) (st : Bool) (k : Nat) (s l o wt on v0 t : Int) (pw po : Int) (lo hi : Nat) (w : World) (hhi : hi ≤ w.heap.size) (hlen : ts.length ≤ 1048576) (t0 : -1000000000 ≤ tn) (t1 : tn ≤ 1000000000) (ht : ts[k]? = some ⟨s, l, o, wt, on, v0, t⟩) (h : OwnR w lo hi 44 7 (.slice A0 ts.length c0) ts.length (tcells ts)) :
 Calls Tryz.prog 62 #[.agg #[.slice A0 ts.length c0, .slice A1 n1 c1, .slice A2 n2 c2, .int .i64 tn, .bool st], .int .i64 k, .int .i64 pw, .int .i64 po] w fun r w' => r = .returned (.agg #[.slice A0 ts.length c0, .slice A1 n1 c1, .slice A2 n2 c2, .int .i64 (tn + 1), .bool st]) ∧ OwnR w' lo hi 44 7 (.slice A0 ts.length c0) ts.length (tcells (ts.set k (parkT ⟨s, l, o, wt, on, v0, t⟩ tn pw po))) ∧ Within lo hi w w' := by
 have hk : k < ts.length := by
  rcases Nat.lt_or_ge k ts.length with h1 | h1
  ·exact h1
  ·rw [List.getElem?_eq_none h1] at ht; cases ht
 obtain ⟨g, cap, hv, _, hgl⟩ := h.1.form (by omega)
 injection hv with hA _ hc
 subst hA hc
 obtain ⟨hg1, hg2⟩ : lo ≤ g ∧ g < hi := ⟨(h.1.lt g rfl).1, h.2 g rfl⟩
 obtain ⟨s', l', o', wt', on', v', t', ht', y0, y1, y2, y3, y4, y5, y6⟩ := Own.t7 h.1 hk
 rw [ht] at ht'
 injection ht' with ht'
 injection ht' with u0 u1 u2 u3 u4 u5 u6
 subst u0 u1 u2 u3 u4 u5 u6
 have rT := h
 have fz0 : w.frozen? ⟨g, k * 7, none⟩ = false := Own.fz h.1 _
 have fz1 : w.frozen? ⟨g, k * 7 + 1, none⟩ = false := Own.fz h.1 _
 have fz2 : w.frozen? ⟨g, k * 7 + 2, none⟩ = false := Own.fz h.1 _
 have fz3 : w.frozen? ⟨g, k * 7 + 3, none⟩ = false := Own.fz h.1 _
 have fz4 : w.frozen? ⟨g, k * 7 + 4, none⟩ = false := Own.fz h.1 _
 have fz5 : w.frozen? ⟨g, k * 7 + 5, none⟩ = false := Own.fz h.1 _
 have fz6 : w.frozen? ⟨g, k * 7 + 6, none⟩ = false := Own.fz h.1 _
 have hgl2 : g < w.heap.size := hgl
 have hgl3 : g < w.heap.size + 1 := by omega
 have hgl4 : g < w.heap.size + 1 + 1 := by omega
 have hgl5 : g < w.heap.size + 1 + 1 + 1 := by omega
 clear ht h
 go_enter Tryz.func62, Tryz.ntmps62
 go_wp2_with fail
 have G := Within.refl lo hi w
 replace rT : OwnR (((((((w.setCell ⟨g, k * 7, none⟩ (.int .i64 3)).setCell ⟨g, k * 7 + 1, none⟩ (.int .i64 l)).setCell ⟨g, k * 7 + 2, none⟩ (.int .i64 (-1))).setCell ⟨g, k * 7 + 3, none⟩ (.int .i64 pw)).setCell ⟨g, k * 7 + 4, none⟩ (.int .i64 po)).setCell ⟨g, k * 7 + 5, none⟩ (.int .i64 v0)).setCell ⟨g, k * 7 + 6, none⟩ (.int .i64 tn)) _ _ _ _ _ _ _ := ⟨Own.put7 rT.1 k 3 l (-1) pw po v0 tn, rT.2⟩
 replace G := (Within.setIn (Within.setIn (Within.setIn (Within.setIn (Within.setIn (Within.setIn (Within.setIn G (p := ⟨g, k * 7, none⟩) (show lo ≤ g ∧ g < hi by omega) (.int .i64 3)) (p := ⟨g, k * 7 + 1, none⟩) (show lo ≤ g ∧ g < hi by omega) (.int .i64 l)) (p := ⟨g, k * 7 + 2, none⟩) (show lo ≤ g ∧ g < hi by omega) (.int .i64 (-1))) (p := ⟨g, k * 7 + 3, none⟩) (show lo ≤ g ∧ g < hi by omega) (.int .i64 pw)) (p := ⟨g, k * 7 + 4, none⟩) (show lo ≤ g ∧ g < hi by omega) (.int .i64 po)) (p := ⟨g, k * 7 + 5, none⟩) (show lo ≤ g ∧ g < hi by omega) (.int .i64 v0)) (p := ⟨g, k * 7 + 6, none⟩) (show lo ≤ g ∧ g < hi by omega) (.int .i64 tn))
 have z1 : ((((((((w.setCell ⟨g, k * 7, none⟩ (.int .i64 3)).setCell ⟨g, k * 7 + 1, none⟩ (.int .i64 l)).setCell ⟨g, k * 7 + 2, none⟩ (.int .i64 (-1))).setCell ⟨g, k * 7 + 3, none⟩ (.int .i64 pw)).setCell ⟨g, k * 7 + 4, none⟩ (.int .i64 po)).setCell ⟨g, k * 7 + 5, none⟩ (.int .i64 v0)).setCell ⟨g, k * 7 + 6, none⟩ (.int .i64 tn))).heap.size = w.heap.size := by simp [World.setCell]
 generalize ((((((w.setCell ⟨g, k * 7, none⟩ (.int .i64 3)).setCell ⟨g, k * 7 + 1, none⟩ (.int .i64 l)).setCell ⟨g, k * 7 + 2, none⟩ (.int .i64 (-1))).setCell ⟨g, k * 7 + 3, none⟩ (.int .i64 pw)).setCell ⟨g, k * 7 + 4, none⟩ (.int .i64 po)).setCell ⟨g, k * 7 + 5, none⟩ (.int .i64 v0)).setCell ⟨g, k * 7 + 6, none⟩ (.int .i64 tn) = W1 at rT G z1 ⊢
 have kX : Blk (W1.alloc (.cells #[.slice (some ⟨g, 0, none⟩) ts.length c0, .slice A1 n1 c1, .slice A2 n2 c2, .int .i64 (tn + 1), .bool st] 30)) (w.heap.size) 30 #[.slice (some ⟨g, 0, none⟩) ts.length c0, .slice A1 n1 c1, .slice A2 n2 c2, .int .i64 (tn + 1), .bool st] := by
  have h := Blk.new W1 30 #[.slice (some ⟨g, 0, none⟩) ts.length c0, .slice A1 n1 c1, .slice A2 n2 c2, .int .i64 (tn + 1), .bool st]
  rw [show W1.heap.size = w.heap.size by omega] at h
  exact h
 replace rT := rT.alloc (.cells #[.slice (some ⟨g, 0, none⟩) ts.length c0, .slice A1 n1 c1, .slice A2 n2 c2, .int .i64 (tn + 1), .bool st] 30)
 have hbs := G.size
 replace G := G.alloc (by omega) (.cells #[.slice (some ⟨g, 0, none⟩) ts.length c0, .slice A1 n1 c1, .slice A2 n2 c2, .int .i64 (tn + 1), .bool st] 30)
 have z2 : (W1.alloc (.cells #[.slice (some ⟨g, 0, none⟩) ts.length c0, .slice A1 n1 c1, .slice A2 n2 c2, .int .i64 (tn + 1), .bool st] 30)).heap.size = W1.heap.size + 1 := by simp
 clear hbs
 generalize W1.alloc (.cells #[.slice (some ⟨g, 0, none⟩) ts.length c0, .slice A1 n1 c1, .slice A2 n2 c2, .int .i64 (tn + 1), .bool st] 30) = W2 at kX rT G z2 ⊢
 have kR : Blk (W2.alloc (.cells #[.slice (some ⟨g, 0, none⟩) ts.length c0, .slice A1 n1 c1, .slice A2 n2 c2, .int .i64 (tn + 1), .bool st] 30)) (w.heap.size + 1) 30 #[.slice (some ⟨g, 0, none⟩) ts.length c0, .slice A1 n1 c1, .slice A2 n2 c2, .int .i64 (tn + 1), .bool st] := by
  have h := Blk.new W2 30 #[.slice (some ⟨g, 0, none⟩) ts.length c0, .slice A1 n1 c1, .slice A2 n2 c2, .int .i64 (tn + 1), .bool st]
  rw [show W2.heap.size = w.heap.size + 1 by omega] at h
  exact h
 replace kX := kX.alloc (.cells #[.slice (some ⟨g, 0, none⟩) ts.length c0, .slice A1 n1 c1, .slice A2 n2 c2, .int .i64 (tn + 1), .bool st] 30)
 replace rT := rT.alloc (.cells #[.slice (some ⟨g, 0, none⟩) ts.length c0, .slice A1 n1 c1, .slice A2 n2 c2, .int .i64 (tn + 1), .bool st] 30)
 have hbs := G.size
 replace G := G.alloc (by omega) (.cells #[.slice (some ⟨g, 0, none⟩) ts.length c0, .slice A1 n1 c1, .slice A2 n2 c2, .int .i64 (tn + 1), .bool st] 30)
 have z3 : (W2.alloc (.cells #[.slice (some ⟨g, 0, none⟩) ts.length c0, .slice A1 n1 c1, .slice A2 n2 c2, .int .i64 (tn + 1), .bool st] 30)).heap.size = W2.heap.size + 1 := by simp
 clear hbs
 generalize W2.alloc (.cells #[.slice (some ⟨g, 0, none⟩) ts.length c0, .slice A1 n1 c1, .slice A2 n2 c2, .int .i64 (tn + 1), .bool st] 30) = W3 at kX kR rT G z3 ⊢
 have kT : Blk (W3.alloc (.cells #[.int .i64 3, .int .i64 l, .int .i64 (-1), .int .i64 pw, .int .i64 po, .int .i64 v0, .int .i64 tn] 44)) (w.heap.size + 2) 44 #[.int .i64 3, .int .i64 l, .int .i64 (-1), .int .i64 pw, .int .i64 po, .int .i64 v0, .int .i64 tn] := by
  have h := Blk.new W3 44 #[.int .i64 3, .int .i64 l, .int .i64 (-1), .int .i64 pw, .int .i64 po, .int .i64 v0, .int .i64 tn]
  rw [show W3.heap.size = w.heap.size + 2 by omega] at h
  exact h
 replace kX := kX.alloc (.cells #[.int .i64 3, .int .i64 l, .int .i64 (-1), .int .i64 pw, .int .i64 po, .int .i64 v0, .int .i64 tn] 44)
 replace kR := kR.alloc (.cells #[.int .i64 3, .int .i64 l, .int .i64 (-1), .int .i64 pw, .int .i64 po, .int .i64 v0, .int .i64 tn] 44)
 replace rT := rT.alloc (.cells #[.int .i64 3, .int .i64 l, .int .i64 (-1), .int .i64 pw, .int .i64 po, .int .i64 v0, .int .i64 tn] 44)
 have hbs := G.size
 replace G := G.alloc (by omega) (.cells #[.int .i64 3, .int .i64 l, .int .i64 (-1), .int .i64 pw, .int .i64 po, .int .i64 v0, .int .i64 tn] 44)
 have z4 : (W3.alloc (.cells #[.int .i64 3, .int .i64 l, .int .i64 (-1), .int .i64 pw, .int .i64 po, .int .i64 v0, .int .i64 tn] 44)).heap.size = W3.heap.size + 1 := by simp
 clear hbs
 generalize W3.alloc (.cells #[.int .i64 3, .int .i64 l, .int .i64 (-1), .int .i64 pw, .int .i64 po, .int .i64 v0, .int .i64 tn] 44) = W4 at kX kR kT rT G z4 ⊢
 have tR : w.heap.size + 1 < W4.heap.size := kR.lt
 have qR0 : W4.cell? ⟨w.heap.size + 1, 0, none⟩ = some (.slice (some ⟨g, 0, none⟩) ts.length c0) := kR.cell 0
 have qR1 : W4.cell? ⟨w.heap.size + 1, 1, none⟩ = some (.slice A1 n1 c1) := kR.cell 1
 have qR2 : W4.cell? ⟨w.heap.size + 1, 2, none⟩ = some (.slice A2 n2 c2) := kR.cell 2
 have qR3 : W4.cell? ⟨w.heap.size + 1, 3, none⟩ = some (.int .i64 (tn + 1)) := kR.cell 3
 have qR4 : W4.cell? ⟨w.heap.size + 1, 4, none⟩ = some (.bool st) := kR.cell 4
 exact bodyPost_ret (v := .agg #[.slice (some ⟨g, 0, none⟩) ts.length c0, .slice A1 n1 c1, .slice A2 n2 c2, .int .i64 (tn + 1), .bool st]) (by simp [results, Tryz.results62, go_sem, qR0, qR1, qR2, qR3, qR4]) rfl ⟨rfl, rT, G⟩
set_option maxHeartbeats 1000000 in
theorem l5Has_any (ts : List T7) (A0 A1 A2 : Option Addr) (c0 n1 c1 n2 c2 : Nat) (tn : Int) (st : Bool) (id : Int) (w : World) (hlen : ts.length ≤ 1048576) :
 Calls Tryz.prog 47 #[.agg #[.slice A0 ts.length c0, .slice A1 n1 c1, .slice A2 n2 c2, .int .i64 tn, .bool st], .int .i64 id] w fun r w' => r = .returned (.bool (btw id 0 (ts.length - 1))) ∧ Below w.heap.size w w' := by
 go_enter Tryz.func47, Tryz.ntmps47
 go_wp2_with fail
 go_call (l1In_any _ _ _ _) as r w1 ⟨rfl, rfl⟩
 go_wp2_with fail
 go_ret
 exact ⟨rfl, by go_grown⟩
end Go.Proofs.YtfjgelegojbmgaaGreat
