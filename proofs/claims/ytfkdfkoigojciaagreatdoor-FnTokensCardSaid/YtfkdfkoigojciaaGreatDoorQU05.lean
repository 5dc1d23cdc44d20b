import Derived.Test.YtfkdfkoigojciaaGreatDoorQU04
import Derived.Test.YtfkdfkoigojciaaGreatDoorQU02

namespace Go.Proofs.YtfkdfkoigojciaaGreatDoor
open Go.RowKit
set_option linter.unusedVariables false
set_option maxHeartbeats 16000000
set_option maxRecDepth 100000
def aheadB (s t : T7) (a b : Int) : Bool := if s.l = t.l then (if s.t = t.t then decide (a < b) else decide (s.t < t.t)) else decide (t.l < s.l)
def posDown (P : Int → Bool) (xs : List Int) : Nat → Nat
 | 0 => 0
 | k + 1 => if P (xs.getD k 0) then posDown P xs k else k + 1
def insAt (xs : List Int) (k : Nat) (i : Int) : List Int := (xs.take k ++ [i]) ++ xs.drop k
def lineM (q : Nat → Bool) (P : Nat → Int → Bool) : Nat → List Int
 | 0 => []
 | k + 1 => if q k then insAt (lineM q P k) (posDown (P k) (lineM q P k) (lineM q P k).length) k else lineM q P k
def taskAt (ts : List T7) (j : Int) : T7 := ts.getD j.toNat default
def readyQ (ts : List T7) (k : Nat) : Bool := (ts.getD k default).s == 1
def readyP (ts : List T7) (k : Nat) (j : Int) : Bool := aheadB (ts.getD k default) (taskAt ts j) k j
def readyM (ts : List T7) : List Int := lineM (readyQ ts) (readyP ts) ts.length
def waitQ (ts : List T7) (wt on : Int) (k : Nat) : Bool := (ts.getD k default).s == 3 && ((ts.getD k default).wt == wt && (ts.getD k default).on == on)
def waitP (ts : List T7) (k : Nat) (j : Int) : Bool := decide ((ts.getD k default).t < (taskAt ts j).t)
def waitersM (ts : List T7) (wt on : Int) : List Int := lineM (waitQ ts wt on) (waitP ts) ts.length
theorem posDown_le (P : Int → Bool) (xs : List Int) (k : Nat) : posDown P xs k ≤ k := by
 induction k with
 | zero => simp [posDown]
 | succ k ih => simp only [posDown]; split <;> omega
theorem insAt_length (xs : List Int) (k : Nat) (i : Int) (hk : k ≤ xs.length) : (insAt xs k i).length = xs.length + 1 := by simp [insAt]; omega
theorem lineM_length (q : Nat → Bool) (P : Nat → Int → Bool) (k : Nat) : (lineM q P k).length ≤ k := by
 induction k with
 | zero => simp [lineM]
 | succ k ih =>
  simp only [lineM]; split
  ·rw [insAt_length _ _ _ (posDown_le _ _ _)]; omega
  ·omega
theorem lineM_mem (q : Nat → Bool) (P : Nat → Int → Bool) (k : Nat) : ∀ x ∈ lineM q P k, ∃ j : Nat, x = j ∧ j < k := by
 induction k with
 | zero => simp [lineM]
 | succ k ih =>
  simp only [lineM]; split
  ·intro x hx
   simp only [insAt, List.mem_append, List.mem_singleton] at hx
   rcases hx with (hx | rfl) | hx
   ·obtain ⟨j, h1, h2⟩ := ih x (List.mem_of_mem_take hx); exact ⟨j, h1, by omega⟩
   ·exact ⟨k, rfl, by omega⟩
   ·obtain ⟨j, h1, h2⟩ := ih x (List.mem_of_mem_drop hx); exact ⟨j, h1, by omega⟩
  ·intro x hx; obtain ⟨j, h1, h2⟩ := ih x hx; exact ⟨j, h1, by omega⟩
theorem icells_drop (xs : List Int) (k : Nat) : (icells xs).drop k = icells (xs.drop k) := by simp [icells, List.map_drop]
theorem icells_take (xs : List Int) (k : Nat) : (icells xs).take (k * 1) = icells (xs.take k) := by rw [Nat.mul_one]; simp [icells, List.map_take]
theorem icells_app (xs ys : List Int) : icells xs ++ icells ys = icells (xs ++ ys) := by simp [icells]
theorem getD_of {ts : List T7} {k : Nat} {x : T7} (h : ts[k]? = some x) : ts.getD k default = x := by rw [List.getD_eq_getElem?_getD, h]; rfl
theorem taskAt_of {ts : List T7} {k : Nat} {x : T7} (h : ts[k]? = some x) : taskAt ts (k : Int) = x := by simp only [taskAt, Int.toNat_natCast]; exact getD_of h
theorem Row.tailI {w : World} {g k : Nat} {xs : List Int} {A : Option Addr} (h : Row w (some ⟨g, 0, none⟩) (icells xs)) (hA : k < xs.length → A = some ⟨g, k, none⟩) : Row w A (icells (xs.drop k)) := by
 rw [← icells_drop]; exact h.tail A (fun hk => hA (by rw [icells_length] at hk; exact hk))
theorem Own.cutI {w : World} {base g n c k : Nat} {e : TypeId} {xs : List Int} (h : w.ownsRow base e 1 (.slice (some ⟨g, 0, none⟩) n c) n (icells xs)) (hk : k ≤ n) : w.ownsRow base e 1 (.slice (some ⟨g, 0, none⟩) k c) k (icells (xs.take k)) := by
 rw [← icells_take]; exact Own.cut h hk
theorem rowOne (w : World) (v : Int) (t : TypeId) : Row (w.alloc (.cells #[.int .i64 v] t)) (some ⟨w.heap.size, 0, none⟩) (icells [v]) :=
 Row.of_own (World.ownsRow_lit (base := 0) (e := t) (size := 1) w #[.int .i64 v] 1 (Nat.zero_le _) (by simp [maxLen]) (by simp))
theorem rowGrown {w w' : World} {base : Nat} {e : TypeId} {size g n c r : Nat} {xs : List Value} (h : w.ownsRow base e size (.slice (some ⟨g, 0, none⟩) n c) n xs) (hg : w.grownBy w' (some r)) (hne : g ≠ r) : w'.ownsRow base e size (.slice (some ⟨g, 0, none⟩) n c) n xs :=
 h.kept hg (.inr (by simp only [Value.ownBlock]; intro e; injection e with e; exact hne e))
theorem own_cap {w : World} {base : Nat} {e : TypeId} {size g n c : Nat} {xs : List Value} (h : w.ownsRow base e size (.slice (some ⟨g, 0, none⟩) n c) n xs) : n ≤ c := by
 rcases h.2 with ⟨hv, _⟩ | ⟨g', cap, cur, hv, _, _, h1, _⟩
 ·cases hv
 ·injection hv with _ _ e3
  omega
theorem own_ins {w : World} {base g n c : Nat} {e : TypeId} {zs : List Value} {ys : List Int} (h : w.ownsRow base e 1 (.slice (some ⟨g, 0, none⟩) n c) n zs) (hz : zs = icells ys) : w.ownsRow base e 1 (.slice (some ⟨g, 0, none⟩) ys.length c) ys.length (icells ys) ∧ n = ys.length := by
 subst hz
 have hn : n = ys.length := by have := h.1; rw [icells_length] at this; omega
 subst hn
 exact ⟨h, rfl⟩
theorem Own.shape {w : World} {base : Nat} {e : TypeId} {size n : Nat} {v : Value} {xs : List Value} (h : w.ownsRow base e size v n xs) (hv : v ≠ .slice none 0 0) : ∃ g cap, v = .slice (some ⟨g, 0, none⟩) n cap ∧ base ≤ g ∧ g < w.heap.size := by
 rcases h.2 with ⟨h1, _⟩ | ⟨g, cap, cur, h1, h2, h3, _⟩
 ·exact absurd h1 hv
 ·exact ⟨g, cap, h1, h2, Blk.lt (t := e) (cs := cur) h3⟩
theorem l4Ahead_any (ts : List T7) (A0 A1 A2 : Option Addr) (c0 n1 c1 n2 c2 : Nat) (tn : Int) (st : Bool) (i j : Nat) (s l o wt on v t s2 l2 o2 wt2 on2 v2 t2 : Int) (w : World) (hlen : ts.length ≤ 1048576) (hi : ts[i]? = some ⟨s, l, o, wt, on, v, t⟩) (hj : ts[j]? = some ⟨s2, l2, o2, wt2, on2, v2, t2⟩) (h : Row w A0 (tcells ts)) :
 Calls Tryz.prog 164 #[.agg #[.slice A0 ts.length c0, .slice A1 n1 c1, .slice A2 n2 c2, .int .i64 tn, .bool st], .int .i64 i, .int .i64 j] w fun r w' => r = .returned (.bool (aheadB ⟨s, l, o, wt, on, v, t⟩ ⟨s2, l2, o2, wt2, on2, v2, t2⟩ i j)) ∧ Below w.heap.size w w' := by
 have hi1 : i < ts.length := by
  rcases Nat.lt_or_ge i ts.length with h1 | h1
  ·exact h1
  ·rw [List.getElem?_eq_none h1] at hi; cases hi
 have hj1 : j < ts.length := by
  rcases Nat.lt_or_ge j ts.length with h1 | h1
  ·exact h1
  ·rw [List.getElem?_eq_none h1] at hj; cases hj
 obtain ⟨b, off, a0, a1, a2, a3, a4, a5, a6, rfl, _, he, hb, y0, y1, y2, y3, y4, y5, y6⟩ := h.ts_at hi1
 rw [hi] at he
 injection he with he
 injection he with u0 u1 u2 u3 u4 u5 u6
 subst u0 u1 u2 u3 u4 u5 u6
 obtain ⟨b', off', a0, a1, a2, a3, a4, a5, a6, e1, _, he, hb', x0, x1, x2, x3, x4, x5, x6⟩ := h.ts_at hj1
 injection e1 with e1
 injection e1 with e1 e2
 subst e1 e2
 rw [hj] at he
 injection he with he
 injection he with u0 u1 u2 u3 u4 u5 u6
 subst u0 u1 u2 u3 u4 u5 u6
 clear hi hj h
 by_cases k1 : l = l2
 ·by_cases k2 : t = t2
  ·have e : aheadB ⟨s, l, o, wt, on, v, t⟩ ⟨s2, l2, o2, wt2, on2, v2, t2⟩ i j = decide ((i : Int) < j) := by simp [aheadB, k1, k2]
   rw [e]
   subst k1 k2
   go_enter Tryz.func164, Tryz.ntmps164
   go_wp2
   go_ret
   exact ⟨ret_bool (by simp), by go_grown⟩
  ·have e : aheadB ⟨s, l, o, wt, on, v, t⟩ ⟨s2, l2, o2, wt2, on2, v2, t2⟩ i j = decide (t < t2) := by simp [aheadB, k1, k2]
   rw [e]
   subst k1
   go_enter Tryz.func164, Tryz.ntmps164
   go_wp2
   go_ret
   exact ⟨rfl, by go_grown⟩
 ·have e : aheadB ⟨s, l, o, wt, on, v, t⟩ ⟨s2, l2, o2, wt2, on2, v2, t2⟩ i j = decide (l2 < l) := by simp [aheadB, k1]
  rw [e]
  go_enter Tryz.func164, Tryz.ntmps164
  go_wp2
  go_ret
  exact ⟨rfl, by go_grown⟩
theorem icells_oneL (ks : List Int) : ∀ v ∈ icells ks, v.oneCell' = true := by
 intro v hv
 obtain ⟨t, _, rfl⟩ := List.mem_map.1 hv
 rfl
theorem readyLine_any (ts : List T7) (A0 A1 A2 : Option Addr) (c0 n1 c1 n2 c2 : Nat) (tn : Int) (st : Bool) (w : World) (hlen : ts.length ≤ 1048576) (h : Row w A0 (tcells ts)) :
 Calls Tryz.prog 118 #[.agg #[.slice A0 ts.length c0, .slice A1 n1 c1, .slice A2 n2 c2, .int .i64 tn, .bool st]] w fun r w' => ∃ (A : Option Addr) (c : Nat), r = .returned (.slice A (readyM ts).length c) ∧ w'.ownsRow w.heap.size 2 1 (.slice A (readyM ts).length c) (readyM ts).length (icells (readyM ts)) ∧ Below w.heap.size w w' := by
 have H := hide h
 clear h
 obtain ⟨i0, hi, hz0, hz1, hz2⟩ := info_parts infoInt
 unfold readyM
 obtain ⟨L, hL⟩ : ∃ L : Nat → List Int, L = lineM (readyQ ts) (readyP ts) := ⟨_, rfl⟩
 rw [← hL]
 have HL := hide hL
 clear hL
 go_enter Tryz.func118, Tryz.ntmps118
 go_wp2
 have G := Below.refl w.heap.size w
 have kX := Blk.new w 35 #[.slice A0 ts.length c0, .slice A1 n1 c1, .slice A2 n2 c2, .int .i64 tn, .bool st]
 have hbs := G.size
 replace G := G.alloc (by omega) (.cells #[.slice A0 ts.length c0, .slice A1 n1 c1, .slice A2 n2 c2, .int .i64 tn, .bool st] 35)
 have z1 : (w.alloc (.cells #[.slice A0 ts.length c0, .slice A1 n1 c1, .slice A2 n2 c2, .int .i64 tn, .bool st] 35)).heap.size = w.heap.size + 1 := by simp
 clear hbs
 generalize w.alloc (.cells #[.slice A0 ts.length c0, .slice A1 n1 c1, .slice A2 n2 c2, .int .i64 tn, .bool st] 35) = W1 at kX G z1 ⊢
 have own0 := World.ownsRow_lit (base := w.heap.size + 1) (e := 2) (size := 1) W1 #[] 0 (by omega) (by simp [maxLen]) (by simp)
 replace kX := kX.alloc (.cells #[] 2)
 have hbs := G.size
 replace G := G.alloc (by omega) (.cells #[] 2)
 have z2 : (W1.alloc (.cells #[] 2)).heap.size = W1.heap.size + 1 := by simp
 generalize W1.alloc (.cells #[] 2) = W2 at kX G z2 own0 ⊢
 have hB := hide (⟨kX, G, G.size⟩ : _ ∧ _ ∧ w.heap.size ≤ W2.heap.size)
 have hw1 : w.heap.size + 1 ≤ W2.heap.size := by omega
 clear hbs kX
 go_loopw [3, 4] (fun v i wr => ∃ (k g cap : Nat), k ≤ ts.length ∧ i = .int .i64 k ∧ v = .slice (some ⟨g, 0, none⟩) (L k).length cap ∧ wr.ownsRow (w.heap.size + 1) 2 1 (.slice (some ⟨g, 0, none⟩) (L k).length cap) (L k).length (icells (L k)) ∧ Blk wr w.heap.size 35 #[.slice A0 ts.length c0, .slice A1 n1 c1, .slice A2 n2 c2, .int .i64 tn, .bool st] ∧ Below w.heap.size w wr) (fun _ i _ => ts.length - (intOf i).toNat)
 case atStart => exact ⟨0, W1.heap.size, 0, Nat.zero_le _, rfl, by rw [HL.out]; simp [lineM], by rw [HL.out]; simpa [lineM, icells] using own0, hB.out.1, G⟩
 case round =>
  clear G own0
  rename World => V
  obtain ⟨k, g, cap, hk, rfl, rfl, hown, kX, G⟩ := hrel
  have z0 := G.size
  by_cases hlt : k < ts.length
  ·obtain ⟨b', off, s, l, o, wt, on, v, t, rfl, _, ht, hb', y0, y1, y2, y3, y4, y5, y6⟩ := (H.out.below G).ts_at hlt
   have Ht := hide ht
   clear ht
   by_cases hs : s = 1
   ·have tX : w.heap.size < V.heap.size := kX.lt
    have qX0 : V.cell? ⟨w.heap.size, 0, none⟩ = some (.slice (some ⟨b', off, none⟩) ts.length c0) := kX.cell 0
    have qX1 : V.cell? ⟨w.heap.size, 1, none⟩ = some (.slice A1 n1 c1) := kX.cell 1
    have qX2 : V.cell? ⟨w.heap.size, 2, none⟩ = some (.slice A2 n2 c2) := kX.cell 2
    have qX3 : V.cell? ⟨w.heap.size, 3, none⟩ = some (.int .i64 tn) := kX.cell 3
    have qX4 : V.cell? ⟨w.heap.size, 4, none⟩ = some (.bool st) := kX.cell 4
    have hlen1 : (L k).length ≤ k := by rw [HL.out]; exact lineM_length _ _ _
    have hmem : Hid (∀ x ∈ L k, ∃ j : Nat, x = j ∧ j < k) := hide (by rw [HL.out]; exact lineM_mem _ _ _)
    obtain ⟨PP, hPP⟩ : ∃ PP : Int → Bool, PP = readyP ts k := ⟨_, rfl⟩
    have hLk : Hid (L (k + 1) = insAt (L k) (posDown PP (L k) (L k).length) k) := hide (by rw [hPP, HL.out]; simp only [lineM, readyQ, getD_of Ht.out]; simp [hs])
    have HPP := hide hPP
    clear hPP
    obtain ⟨xs, hxs⟩ : ∃ xs, xs = L k := ⟨_, rfl⟩
    rw [← hxs] at hown hlen1 hmem hLk ⊢
    clear hxs
    have H1 := hide (⟨hown, kX, G⟩ : _ ∧ _ ∧ _)
    have hgV : g < V.heap.size := (hown.lt g rfl).2
    have hgB : w.heap.size + 1 ≤ g := (hown.lt g rfl).1
    clear hown kX G y1 y2 y3 y4 y5 y6
    have hs1 : (s != 1) = false := by simp [hs]
    go_wp2_with fail
    go_loopw [5] (fun j wr => ∃ (q : Nat), q ≤ xs.length ∧ j = .int .i64 q ∧ posDown PP xs xs.length = posDown PP xs q ∧ Below V.heap.size V wr) (fun j _ => (intOf j).toNat)
    case atStart => exact ⟨xs.length, Nat.le_refl _, rfl, rfl, Below.refl _ _⟩
    case round =>
     rename World => U
     obtain ⟨q, hq, rfl, hpd, G2⟩ := hrel
     have Hpd := hide hpd
     clear hpd
     have kX := H1.out.2.1.below G2 H1.out.2.1.lt
     have ownU := Own.below H1.out.1 G2
     have zU := G2.size
     rcases Nat.eq_zero_or_pos q with hq0 | hq0
     ·subst hq0
      have cX0 := KeptW.cell (W0 := U) (b := w.heap.size) (o := 0) (u := .slice (some ⟨b', off, none⟩) ts.length c0) (kX.cell 0)
      go_wp2_with fail
      have HG := hide (⟨G2, G2.size⟩ : Below V.heap.size V U ∧ V.heap.size ≤ U.heap.size)
      clear kX ownU G2 zU
      have hx0 := KeptW.mk'_w (Below.refl U.heap.size U)
      generalize KeptW.mk' (Below.refl U.heap.size U) = x at hx0
      rw [← hx0]
      clear hx0
      refine region_kept (by kernel_rfl) (by kernel_rfl) ?_
      repeat (go_big_quiet_step (fail))
      refine wpQuiet_nil ?_
      rintro _ ⟨x, rfl⟩
      obtain ⟨Z, hZ, GZ⟩ : ∃ Z, Z = x.w ∧ Below V.heap.size V Z := ⟨_, rfl, HG.out.1.trans (x.below.mono HG.out.2)⟩
      rw [← hZ]
      clear hZ x
      have hpos : Hid (posDown PP xs xs.length = 0) := hide (by rw [Hpd.out]; rfl)
      have ownZ := Own.below H1.out.1 GZ
      have zZ := GZ.size
      have hVw : w.heap.size + 1 ≤ V.heap.size := by omega
      go_wp2_with (first | (at_builtin; refine wpList_append_row rfl (.tmp 38) (.tmp 41) 32 rfl (Z.heap.size) 2 i0 (.int .i64 0) 1 8 Tryz.underlying32 hi hz0 hz1 hz2 rfl (by decide) (.slice (some ⟨Z.heap.size, 0, none⟩) 0 0) (0) ([]) rfl (World.ownsRow_lit (base := Z.heap.size) Z #[] 0 (Nat.le_refl _) (by simp [maxLen]) (by simp)) _ _ _ (icells (xs.drop 0)) rfl (by simp [icells] <;> omega) (Row.tailI (k := 0) (Row.of_own (ownZ.alloc _)) (by intro h; first | rfl | (simp; done))) (icells_oneL _) (by unfold maxLen; omega) (by omega) (by first | omega | (simp; done) | (simp; omega)) ?_; intro v1 Z1 hown1 hgr1 hiff1; obtain ⟨g1, cap1, hv1, hg1, hg1l⟩ := Own.shape hown1 (fun e => absurd (hiff1.1 e).1 (by simp)); subst hv1; have ownZ1 := rowGrown (r := Z.heap.size) (ownZ.alloc (.cells #[] 2)) hgr1 (by omega); have zz1 := hgr1.size; simp at zz1) | (at_builtin; refine wpList_append_row rfl (.tmp 45) (.tmp 47) 32 rfl (w.heap.size + 1) 2 i0 (.int .i64 0) 1 8 Tryz.underlying32 hi hz0 hz1 hz2 rfl (by decide) (.slice (some ⟨g, 0, none⟩) (0) cap) (0) (icells (xs.take 0)) rfl ((Own.cutI ownZ1 (by omega)).alloc _) _ _ _ (icells [(k : Int)]) rfl (by simp [icells] <;> omega) (rowOne _ _ _) (icells_oneL _) (by unfold maxLen; omega) (by omega) (by first | omega | (simp; done) | (simp; omega)) ?_; intro v2 Z2 hown2 hgr2 hiff2; obtain ⟨g2, cap2, hv2, hg2, hg2l⟩ := Own.shape hown2 (fun e => absurd (hiff2.1 e).1 (by simp)); subst hv2; have ownR2 := rowGrown (r := g) (hown1.alloc (.cells #[.int .i64 k] 2)) hgr2 (by omega); have zz2 := hgr2.size; simp at zz2) | (at_builtin; refine wpList_append_row rfl (.tmp 48) (.tmp 49) 32 rfl (w.heap.size + 1) 2 i0 (.int .i64 0) 1 8 Tryz.underlying32 hi hz0 hz1 hz2 rfl (by decide) (.slice (some ⟨g2, 0, none⟩) (0 + 1) cap2) (0 + 1) (icells (xs.take 0) ++ icells [(k : Int)]) rfl (hown2) _ _ _ (icells (xs.drop 0)) rfl (by simp [icells] <;> omega) (Row.of_own ownR2) (icells_oneL _) (by unfold maxLen; omega) (by omega) (by first | omega | (simp; done) | (simp; omega)) ?_; intro v3 Z3 hown3 hgr3 hiff3; obtain ⟨g3, cap3, hv3, hg3, hg3l⟩ := Own.shape hown3 (fun e => absurd (hiff3.1 e).1 (by simp)); subst hv3))
      go_roundw
      case rel =>
       obtain ⟨ho, hn⟩ := own_ins hown3 (ys := L (k + 1)) (by rw [hLk.out, hpos.out]; simp [insAt, icells])
       have kX0 := H1.out.2.1.below GZ H1.out.2.1.lt
       have kX1 := (kX0.alloc (.cells #[] 2)).grown (row := some Z.heap.size) hgr1 (by intro e; injection e; omega)
       have kX2 := (kX1.alloc (.cells #[.int .i64 k] 2)).grown (row := some g) hgr2 (by intro e; injection e; omega)
       have kX3 := kX2.grown (row := some g2) hgr3 (by intro e; injection e; omega)
       have G0 := H1.out.2.2.trans (GZ.mono (by omega))
       have G1 := Below.grown (row := some Z.heap.size) (G0.alloc (by omega) (.cells #[] 2)) hgr1 (by simp; omega) (by intro r e; injection e; omega)
       have G2 := Below.grown (row := some g) (G1.alloc (by omega) (.cells #[.int .i64 k] 2)) hgr2 (by simp; omega) (by intro r e; injection e; omega)
       have G3 := Below.grown (row := some g2) G2 hgr3 (by omega) (by intro r e; injection e; omega)
       exact ⟨k + 1, g3, cap3, by omega, by go_num, by congr 1; try omega, ho, kX3, G3⟩
      case measure => simp [intOf]; omega
     ·obtain ⟨p, rfl⟩ : ∃ p, q = p + 1 := ⟨q - 1, by omega⟩
      have hp : p < xs.length := by omega
      obtain ⟨xv, hxv, yx⟩ := Own.i1 ownU (k := p) hp
      obtain ⟨j, rfl, hjk⟩ := hmem.out xv (List.mem_of_getElem? hxv)
      obtain ⟨s2, l2, o2, wt2, on2, v2, t2, hj⟩ : ∃ s l o wt on v t : Int, ts[j]? = some ⟨s, l, o, wt, on, v, t⟩ := ⟨_, _, _, _, _, _, _, by rw [List.getElem?_eq_getElem (by omega)]⟩
      have hPx : PP (xs.getD p 0) = aheadB ⟨s, l, o, wt, on, v, t⟩ ⟨s2, l2, o2, wt2, on2, v2, t2⟩ k j := by
       rw [HPP.out, List.getD_eq_getElem?_getD, hxv]
       simp only [Option.getD_some, readyP]
       rw [getD_of Ht.out, taskAt_of hj]
      have hstep : posDown PP xs (p + 1) = if PP (xs.getD p 0) then posDown PP xs p else p + 1 := rfl
      rw [hPx] at hstep
      have hj' := hide hj
      have hq1 : Hid (∀ x : KeptW U, Calls Tryz.prog 164 #[.agg #[.slice (some ⟨b', off, none⟩) ts.length c0, .slice A1 n1 c1, .slice A2 n2 c2, .int .i64 tn, .bool st], .int .i64 k, .int .i64 j] x.w fun r w' => r = .returned (.bool (aheadB ⟨s, l, o, wt, on, v, t⟩ ⟨s2, l2, o2, wt2, on2, v2, t2⟩ k j)) ∧ Below x.w.heap.size x.w w') := hide (fun x => l4Ahead_any ts (some ⟨b', off, none⟩) A1 A2 c0 n1 c1 n2 c2 tn st k j s l o wt on v t s2 l2 o2 wt2 on2 v2 t2 x.w hlen Ht.out hj'.out ((((H.out.below H1.out.2.2).below G2)).below x.below))
      have cX0 := KeptW.cell (W0 := U) (b := w.heap.size) (o := 0) (u := .slice (some ⟨b', off, none⟩) ts.length c0) (kX.cell 0)
      have cX1 := KeptW.cell (W0 := U) (b := w.heap.size) (o := 1) (u := .slice A1 n1 c1) (kX.cell 1)
      have cX2 := KeptW.cell (W0 := U) (b := w.heap.size) (o := 2) (u := .slice A2 n2 c2) (kX.cell 2)
      have cX3 := KeptW.cell (W0 := U) (b := w.heap.size) (o := 3) (u := .int .i64 tn) (kX.cell 3)
      have cX4 := KeptW.cell (W0 := U) (b := w.heap.size) (o := 4) (u := .bool st) (kX.cell 4)
      have cy := KeptW.cell (W0 := U) (b := g) (o := p) (u := .int .i64 j) yx
      have hcl : xs.length ≤ cap := own_cap H1.out.1
      have hcap : p + 1 ≤ cap := by
       have := own_cap H1.out.1
       omega
      generalize aheadB ⟨s, l, o, wt, on, v, t⟩ ⟨s2, l2, o2, wt2, on2, v2, t2⟩ k j = z at hq1 hstep
      have Hst := hide hstep
      clear hstep hPx hj hxv yx
      go_wp2_with fail
      have HG := hide (⟨G2, G2.size⟩ : Below V.heap.size V U ∧ V.heap.size ≤ U.heap.size)
      clear kX ownU G2 zU
      have hx0 := KeptW.mk'_w (Below.refl U.heap.size U)
      generalize KeptW.mk' (Below.refl U.heap.size U) = x at hx0
      rw [← hx0]
      clear hx0
      cases z
      ·refine region_kept (by kernel_rfl) (by kernel_rfl) ?_
       repeat (go_big_quiet_step (first | (go_at_call 164; with_reducible exact (kept_call (hq1.out _)))))
       refine wpQuiet_nil ?_
       rintro _ ⟨x, rfl⟩
       obtain ⟨Z, hZ, GZ⟩ : ∃ Z, Z = x.w ∧ Below V.heap.size V Z := ⟨_, rfl, HG.out.1.trans (x.below.mono HG.out.2)⟩
       rw [← hZ]
       clear hZ x
       by_cases hcq : cap = p + 1
       ·subst hcq
        have hpos : Hid (posDown PP xs xs.length = (p + 1)) := hide (by rw [Hpd.out, Hst.out]; simp)
        have ownZ := Own.below H1.out.1 GZ
        have zZ := GZ.size
        have hVw : w.heap.size + 1 ≤ V.heap.size := by omega
        go_wp2_with (first | (at_builtin; refine wpList_append_row rfl (.tmp 38) (.tmp 41) 32 rfl (Z.heap.size) 2 i0 (.int .i64 0) 1 8 Tryz.underlying32 hi hz0 hz1 hz2 rfl (by decide) (.slice (some ⟨Z.heap.size, 0, none⟩) 0 0) (0) ([]) rfl (World.ownsRow_lit (base := Z.heap.size) Z #[] 0 (Nat.le_refl _) (by simp [maxLen]) (by simp)) _ _ _ (icells (xs.drop (p + 1))) rfl (by simp [icells] <;> omega) (Row.tailI (k := (p + 1)) (Row.of_own (ownZ.alloc _)) (by intro h; first | omega | rfl | (simp; done))) (icells_oneL _) (by unfold maxLen; omega) (by omega) (by first | omega | (simp; done) | (simp; omega)) ?_; intro v1 Z1 hown1 hgr1 hiff1; obtain ⟨g1, cap1, hv1, hg1, hg1l⟩ := Own.shape hown1 (fun e => absurd (hiff1.1 e).1 (by simp)); subst hv1; have ownZ1 := rowGrown (r := Z.heap.size) (ownZ.alloc (.cells #[] 2)) hgr1 (by omega); have zz1 := hgr1.size; simp at zz1) | (at_builtin; refine wpList_append_row rfl (.tmp 45) (.tmp 47) 32 rfl (w.heap.size + 1) 2 i0 (.int .i64 0) 1 8 Tryz.underlying32 hi hz0 hz1 hz2 rfl (by decide) (.slice (some ⟨g, 0, none⟩) ((p + 1)) (p + 1)) ((p + 1)) (icells (xs.take (p + 1))) rfl ((Own.cutI ownZ1 (by omega)).alloc _) _ _ _ (icells [(k : Int)]) rfl (by simp [icells] <;> omega) (rowOne _ _ _) (icells_oneL _) (by unfold maxLen; omega) (by omega) (by first | omega | (simp; done) | (simp; omega)) ?_; intro v2 Z2 hown2 hgr2 hiff2; obtain ⟨g2, cap2, hv2, hg2, hg2l⟩ := Own.shape hown2 (fun e => absurd (hiff2.1 e).1 (by simp)); subst hv2; have ownR2 := rowGrown (r := g) (hown1.alloc (.cells #[.int .i64 k] 2)) hgr2 (by omega); have zz2 := hgr2.size; simp at zz2) | (at_builtin; refine wpList_append_row rfl (.tmp 48) (.tmp 49) 32 rfl (w.heap.size + 1) 2 i0 (.int .i64 0) 1 8 Tryz.underlying32 hi hz0 hz1 hz2 rfl (by decide) (.slice (some ⟨g2, 0, none⟩) ((p + 1) + 1) cap2) ((p + 1) + 1) (icells (xs.take (p + 1)) ++ icells [(k : Int)]) rfl (hown2) _ _ _ (icells (xs.drop (p + 1))) rfl (by simp [icells] <;> omega) (Row.of_own ownR2) (icells_oneL _) (by unfold maxLen; omega) (by omega) (by first | omega | (simp; done) | (simp; omega)) ?_; intro v3 Z3 hown3 hgr3 hiff3; obtain ⟨g3, cap3, hv3, hg3, hg3l⟩ := Own.shape hown3 (fun e => absurd (hiff3.1 e).1 (by simp)); subst hv3))
        go_roundw
        case rel =>
         obtain ⟨ho, hn⟩ := own_ins hown3 (ys := L (k + 1)) (by rw [hLk.out, hpos.out]; simp [insAt, icells])
         have kX0 := H1.out.2.1.below GZ H1.out.2.1.lt
         have kX1 := (kX0.alloc (.cells #[] 2)).grown (row := some Z.heap.size) hgr1 (by intro e; injection e; omega)
         have kX2 := (kX1.alloc (.cells #[.int .i64 k] 2)).grown (row := some g) hgr2 (by intro e; injection e; omega)
         have kX3 := kX2.grown (row := some g2) hgr3 (by intro e; injection e; omega)
         have G0 := H1.out.2.2.trans (GZ.mono (by omega))
         have G1 := Below.grown (row := some Z.heap.size) (G0.alloc (by omega) (.cells #[] 2)) hgr1 (by simp; omega) (by intro r e; injection e; omega)
         have G2 := Below.grown (row := some g) (G1.alloc (by omega) (.cells #[.int .i64 k] 2)) hgr2 (by simp; omega) (by intro r e; injection e; omega)
         have G3 := Below.grown (row := some g2) G2 hgr3 (by omega) (by intro r e; injection e; omega)
         exact ⟨k + 1, g3, cap3, by omega, by go_num, by congr 1; try omega, ho, kX3, G3⟩
        case measure => simp [intOf]; omega
       ·have hpos : Hid (posDown PP xs xs.length = (p + 1)) := hide (by rw [Hpd.out, Hst.out]; simp)
        have ownZ := Own.below H1.out.1 GZ
        have zZ := GZ.size
        have hVw : w.heap.size + 1 ≤ V.heap.size := by omega
        go_wp2_with (first | (at_builtin; refine wpList_append_row rfl (.tmp 38) (.tmp 41) 32 rfl (Z.heap.size) 2 i0 (.int .i64 0) 1 8 Tryz.underlying32 hi hz0 hz1 hz2 rfl (by decide) (.slice (some ⟨Z.heap.size, 0, none⟩) 0 0) (0) ([]) rfl (World.ownsRow_lit (base := Z.heap.size) Z #[] 0 (Nat.le_refl _) (by simp [maxLen]) (by simp)) _ _ _ (icells (xs.drop (p + 1))) rfl (by simp [icells] <;> omega) (Row.tailI (k := (p + 1)) (Row.of_own (ownZ.alloc _)) (by intro h; first | rfl | omega | (simp; done))) (icells_oneL _) (by unfold maxLen; omega) (by omega) (by first | omega | (simp; done) | (simp; omega)) ?_; intro v1 Z1 hown1 hgr1 hiff1; obtain ⟨g1, cap1, hv1, hg1, hg1l⟩ := Own.shape hown1 (fun e => absurd (hiff1.1 e).1 (by simp)); subst hv1; have ownZ1 := rowGrown (r := Z.heap.size) (ownZ.alloc (.cells #[] 2)) hgr1 (by omega); have zz1 := hgr1.size; simp at zz1) | (at_builtin; refine wpList_append_row rfl (.tmp 45) (.tmp 47) 32 rfl (w.heap.size + 1) 2 i0 (.int .i64 0) 1 8 Tryz.underlying32 hi hz0 hz1 hz2 rfl (by decide) (.slice (some ⟨g, 0, none⟩) ((p + 1)) cap) ((p + 1)) (icells (xs.take (p + 1))) rfl ((Own.cutI ownZ1 (by omega)).alloc _) _ _ _ (icells [(k : Int)]) rfl (by simp [icells] <;> omega) (rowOne _ _ _) (icells_oneL _) (by unfold maxLen; omega) (by omega) (by first | omega | (simp; done) | (simp; omega)) ?_; intro v2 Z2 hown2 hgr2 hiff2; obtain ⟨g2, cap2, hv2, hg2, hg2l⟩ := Own.shape hown2 (fun e => absurd (hiff2.1 e).1 (by simp)); subst hv2; have ownR2 := rowGrown (r := g) (hown1.alloc (.cells #[.int .i64 k] 2)) hgr2 (by omega); have zz2 := hgr2.size; simp at zz2) | (at_builtin; refine wpList_append_row rfl (.tmp 48) (.tmp 49) 32 rfl (w.heap.size + 1) 2 i0 (.int .i64 0) 1 8 Tryz.underlying32 hi hz0 hz1 hz2 rfl (by decide) (.slice (some ⟨g2, 0, none⟩) ((p + 1) + 1) cap2) ((p + 1) + 1) (icells (xs.take (p + 1)) ++ icells [(k : Int)]) rfl (hown2) _ _ _ (icells (xs.drop (p + 1))) rfl (by simp [icells] <;> omega) (Row.of_own ownR2) (icells_oneL _) (by unfold maxLen; omega) (by omega) (by first | omega | (simp; done) | (simp; omega)) ?_; intro v3 Z3 hown3 hgr3 hiff3; obtain ⟨g3, cap3, hv3, hg3, hg3l⟩ := Own.shape hown3 (fun e => absurd (hiff3.1 e).1 (by simp)); subst hv3))
        go_roundw
        case rel =>
         obtain ⟨ho, hn⟩ := own_ins hown3 (ys := L (k + 1)) (by rw [hLk.out, hpos.out]; simp [insAt, icells])
         have kX0 := H1.out.2.1.below GZ H1.out.2.1.lt
         have kX1 := (kX0.alloc (.cells #[] 2)).grown (row := some Z.heap.size) hgr1 (by intro e; injection e; omega)
         have kX2 := (kX1.alloc (.cells #[.int .i64 k] 2)).grown (row := some g) hgr2 (by intro e; injection e; omega)
         have kX3 := kX2.grown (row := some g2) hgr3 (by intro e; injection e; omega)
         have G0 := H1.out.2.2.trans (GZ.mono (by omega))
         have G1 := Below.grown (row := some Z.heap.size) (G0.alloc (by omega) (.cells #[] 2)) hgr1 (by simp; omega) (by intro r e; injection e; omega)
         have G2 := Below.grown (row := some g) (G1.alloc (by omega) (.cells #[.int .i64 k] 2)) hgr2 (by simp; omega) (by intro r e; injection e; omega)
         have G3 := Below.grown (row := some g2) G2 hgr3 (by omega) (by intro r e; injection e; omega)
         exact ⟨k + 1, g3, cap3, by omega, by go_num, by congr 1; try omega, ho, kX3, G3⟩
        case measure => simp [intOf]; omega
      ·refine region_kept (by kernel_rfl) (by kernel_rfl) ?_
       repeat (go_big_quiet_step (first | (go_at_call 164; with_reducible exact (kept_call (hq1.out _)))))
       refine wpQuiet_nil ?_
       rintro _ ⟨x, rfl⟩
       go_wp2
       go_roundw
       case rel => exact ⟨p, by omega, by go_num, by rw [Hpd.out, Hst.out]; simp, HG.out.1.trans (x.below.mono HG.out.2)⟩
       case measure => simp [intOf]
   ·have tX : w.heap.size < V.heap.size := kX.lt
    have qX0 : V.cell? ⟨w.heap.size, 0, none⟩ = some (.slice (some ⟨b', off, none⟩) ts.length c0) := kX.cell 0
    have qX1 : V.cell? ⟨w.heap.size, 1, none⟩ = some (.slice A1 n1 c1) := kX.cell 1
    have qX2 : V.cell? ⟨w.heap.size, 2, none⟩ = some (.slice A2 n2 c2) := kX.cell 2
    have qX3 : V.cell? ⟨w.heap.size, 3, none⟩ = some (.int .i64 tn) := kX.cell 3
    have qX4 : V.cell? ⟨w.heap.size, 4, none⟩ = some (.bool st) := kX.cell 4
    have H1 := hide (⟨hown, kX, G⟩ : _ ∧ _ ∧ _)
    clear hown kX G y1 y2 y3 y4 y5 y6
    have hLk : Hid (L (k + 1) = L k) := hide (by rw [HL.out]; simp only [lineM, readyQ, getD_of Ht.out]; simp [hs])
    go_wp2
    go_roundw
    case rel => exact ⟨k + 1, g, cap, by omega, by go_num, by rw [hLk.out], by rw [hLk.out]; exact H1.out.1, H1.out.2.1, H1.out.2.2⟩
    case measure => simp [intOf]; omega
  ·obtain rfl : k = ts.length := by omega
   have qX0 : V.cell? ⟨w.heap.size, 0, none⟩ = some (.slice A0 ts.length c0) := kX.cell 0
   have H1 := hide (⟨hown, G⟩ : _ ∧ _)
   clear hown kX G
   go_wp2
   go_ret
   exact ⟨_, _, rfl, Own.lower H1.out.1 (by omega), H1.out.2⟩
def firstM (ts : List T7) : Int := (readyM ts).headD (-1)
theorem firstReady_any (ts : List T7) (A0 A1 A2 : Option Addr) (c0 n1 c1 n2 c2 : Nat) (tn : Int) (st : Bool) (w : World) (hlen : ts.length ≤ 1048576) (h : Row w A0 (tcells ts)) :
 Calls Tryz.prog 57 #[.agg #[.slice A0 ts.length c0, .slice A1 n1 c1, .slice A2 n2 c2, .int .i64 tn, .bool st]] w fun r w' => r = .returned (.int .i64 (firstM ts)) ∧ Below w.heap.size w w' := by
 have H := hide h
 clear h
 unfold firstM
 go_enter Tryz.func57, Tryz.ntmps57
 go_wp2_with fail
 have G := Below.refl w.heap.size w
 have kX := Blk.new w 35 #[.slice A0 ts.length c0, .slice A1 n1 c1, .slice A2 n2 c2, .int .i64 tn, .bool st]
 have hbs := G.size
 replace G := G.alloc (by omega) (.cells #[.slice A0 ts.length c0, .slice A1 n1 c1, .slice A2 n2 c2, .int .i64 tn, .bool st] 35)
 have z1 : (w.alloc (.cells #[.slice A0 ts.length c0, .slice A1 n1 c1, .slice A2 n2 c2, .int .i64 tn, .bool st] 35)).heap.size = w.heap.size + 1 := by simp
 clear hbs
 generalize w.alloc (.cells #[.slice A0 ts.length c0, .slice A1 n1 c1, .slice A2 n2 c2, .int .i64 tn, .bool st] 35) = W1 at kX G z1 ⊢
 go_call (readyLine_any ts A0 A1 A2 c0 n1 c1 n2 c2 tn st _ hlen (H.out.below G)) as r W2 ⟨A, c, rfl, own, g1⟩
 have hbs := G.size
 replace kX := kX.below g1 kX.lt
 replace G := G.trans (g1.mono (by omega))
 have z2 := g1.size
 clear g1 hbs
 cases hR : readyM ts with
 | nil =>
  have HR := hide hR
  clear hR
  go_wp2
  go_ret
  refine ⟨?_, G⟩
  rw [HR.out]; rfl
 | cons x r =>
  rw [hR] at own
  obtain ⟨b, off, v, rfl, _, hx, hb, z0⟩ := (Row.of_own own).ks_at (k := 0) (by simp)
  simp only [List.getElem?_cons_zero, Option.some.injEq] at hx
  subst hx
  rw [Nat.add_zero] at z0
  have hl : (0 : Int) < ((x :: r).length : Nat) := by simp
  have hn : ((x :: r).length : Int) ≠ 0 := by omega
  have HR := hide hR
  clear own hR
  go_wp2
  go_ret
  refine ⟨?_, G⟩
  rw [HR.out]; rfl
theorem waitersOn_any (ts : List T7) (A0 A1 A2 : Option Addr) (c0 n1 c1 n2 c2 : Nat) (tn : Int) (st : Bool) (wa oa : Int) (w : World) (hlen : ts.length ≤ 1048576) (h : Row w A0 (tcells ts)) :
 Calls Tryz.prog 97 #[.agg #[.slice A0 ts.length c0, .slice A1 n1 c1, .slice A2 n2 c2, .int .i64 tn, .bool st], .int .i64 wa, .int .i64 oa] w fun r w' => ∃ (A : Option Addr) (c : Nat), r = .returned (.slice A (waitersM ts wa oa).length c) ∧ w'.ownsRow w.heap.size 2 1 (.slice A (waitersM ts wa oa).length c) (waitersM ts wa oa).length (icells (waitersM ts wa oa)) ∧ Below w.heap.size w w' := by
 have H := hide h
 clear h
 obtain ⟨i0, hi, hz0, hz1, hz2⟩ := info_parts infoInt
 unfold waitersM
 obtain ⟨L, hL⟩ : ∃ L : Nat → List Int, L = lineM (waitQ ts wa oa) (waitP ts) := ⟨_, rfl⟩
 rw [← hL]
 have HL := hide hL
 clear hL
 go_enter Tryz.func97, Tryz.ntmps97
 go_wp2
 have G := Below.refl w.heap.size w
 have kX := Blk.new w 35 #[.slice A0 ts.length c0, .slice A1 n1 c1, .slice A2 n2 c2, .int .i64 tn, .bool st]
 have hbs := G.size
 replace G := G.alloc (by omega) (.cells #[.slice A0 ts.length c0, .slice A1 n1 c1, .slice A2 n2 c2, .int .i64 tn, .bool st] 35)
 have z1 : (w.alloc (.cells #[.slice A0 ts.length c0, .slice A1 n1 c1, .slice A2 n2 c2, .int .i64 tn, .bool st] 35)).heap.size = w.heap.size + 1 := by simp
 clear hbs
 generalize w.alloc (.cells #[.slice A0 ts.length c0, .slice A1 n1 c1, .slice A2 n2 c2, .int .i64 tn, .bool st] 35) = W1 at kX G z1 ⊢
 have own0 := World.ownsRow_lit (base := w.heap.size + 1) (e := 2) (size := 1) W1 #[] 0 (by omega) (by simp [maxLen]) (by simp)
 replace kX := kX.alloc (.cells #[] 2)
 have hbs := G.size
 replace G := G.alloc (by omega) (.cells #[] 2)
 have z2 : (W1.alloc (.cells #[] 2)).heap.size = W1.heap.size + 1 := by simp
 generalize W1.alloc (.cells #[] 2) = W2 at kX G z2 own0 ⊢
 have hB := hide (⟨kX, G, G.size⟩ : _ ∧ _ ∧ w.heap.size ≤ W2.heap.size)
 have hw1 : w.heap.size + 1 ≤ W2.heap.size := by omega
 clear hbs kX
 go_loopw [7, 8] (fun v i wr => ∃ (k g cap : Nat), k ≤ ts.length ∧ i = .int .i64 k ∧ v = .slice (some ⟨g, 0, none⟩) (L k).length cap ∧ wr.ownsRow (w.heap.size + 1) 2 1 (.slice (some ⟨g, 0, none⟩) (L k).length cap) (L k).length (icells (L k)) ∧ Blk wr w.heap.size 35 #[.slice A0 ts.length c0, .slice A1 n1 c1, .slice A2 n2 c2, .int .i64 tn, .bool st] ∧ Below w.heap.size w wr) (fun _ i _ => ts.length - (intOf i).toNat)
 case atStart => exact ⟨0, W1.heap.size, 0, Nat.zero_le _, rfl, by rw [HL.out]; simp [lineM], by rw [HL.out]; simpa [lineM, icells] using own0, hB.out.1, G⟩
 case round =>
  clear G own0
  rename World => V
  obtain ⟨k, g, cap, hk, rfl, rfl, hown, kX, G⟩ := hrel
  have z0 := G.size
  by_cases hlt : k < ts.length
  ·obtain ⟨b', off, s, l, o, wt, on, v, t, rfl, _, ht, hb', y0, y1, y2, y3, y4, y5, y6⟩ := (H.out.below G).ts_at hlt
   have Ht := hide ht
   clear ht
   have tX : w.heap.size < V.heap.size := kX.lt
   have qX0 : V.cell? ⟨w.heap.size, 0, none⟩ = some (.slice (some ⟨b', off, none⟩) ts.length c0) := kX.cell 0
   have qX1 : V.cell? ⟨w.heap.size, 1, none⟩ = some (.slice A1 n1 c1) := kX.cell 1
   have qX2 : V.cell? ⟨w.heap.size, 2, none⟩ = some (.slice A2 n2 c2) := kX.cell 2
   have qX3 : V.cell? ⟨w.heap.size, 3, none⟩ = some (.int .i64 tn) := kX.cell 3
   have qX4 : V.cell? ⟨w.heap.size, 4, none⟩ = some (.bool st) := kX.cell 4
   by_cases h1 : s = 3
   rotate_left
   ·have h1b : (s != 3) = true := by simpa using h1
    have hh := hide h1
    have H1 := hide (⟨hown.alloc (.cells #[.int .i64 s, .int .i64 l, .int .i64 o, .int .i64 wt, .int .i64 on, .int .i64 v, .int .i64 t] 45), kX.alloc (.cells #[.int .i64 s, .int .i64 l, .int .i64 o, .int .i64 wt, .int .i64 on, .int .i64 v, .int .i64 t] 45), G.alloc G.size (.cells #[.int .i64 s, .int .i64 l, .int .i64 o, .int .i64 wt, .int .i64 on, .int .i64 v, .int .i64 t] 45)⟩ : _ ∧ _ ∧ _)
    clear hown kX G
    have hLk : Hid (L (k + 1) = L k) := hide (by rw [HL.out]; simp only [lineM, waitQ, getD_of Ht.out]; simp [hh.out])
    go_wp2
    go_roundw
    case rel => exact ⟨k + 1, g, cap, by omega, by go_num, by rw [hLk.out], by rw [hLk.out]; exact H1.out.1, H1.out.2.1, H1.out.2.2⟩
    case measure => simp [intOf]; omega
   by_cases h2 : wt = wa
   rotate_left
   ·have h1b : (s != 3) = false := by simp [h1]
    have h2b : (wt != wa) = true := by simpa using h2
    have hh := hide h2
    clear h1
    have H1 := hide (⟨hown.alloc (.cells #[.int .i64 s, .int .i64 l, .int .i64 o, .int .i64 wt, .int .i64 on, .int .i64 v, .int .i64 t] 45), kX.alloc (.cells #[.int .i64 s, .int .i64 l, .int .i64 o, .int .i64 wt, .int .i64 on, .int .i64 v, .int .i64 t] 45), G.alloc G.size (.cells #[.int .i64 s, .int .i64 l, .int .i64 o, .int .i64 wt, .int .i64 on, .int .i64 v, .int .i64 t] 45)⟩ : _ ∧ _ ∧ _)
    clear hown kX G
    have hLk : Hid (L (k + 1) = L k) := hide (by rw [HL.out]; simp only [lineM, waitQ, getD_of Ht.out]; simp [hh.out])
    go_wp2
    go_roundw
    case rel => exact ⟨k + 1, g, cap, by omega, by go_num, by rw [hLk.out], by rw [hLk.out]; exact H1.out.1, H1.out.2.1, H1.out.2.2⟩
    case measure => simp [intOf]; omega
   by_cases h3 : on = oa
   rotate_left
   ·have h1b : (s != 3) = false := by simp [h1]
    have h2b : (wt != wa) = false := by simp [h2]
    have h3b : (on != oa) = true := by simpa using h3
    have hh := hide h3
    clear h1 h2
    have H1 := hide (⟨hown.alloc (.cells #[.int .i64 s, .int .i64 l, .int .i64 o, .int .i64 wt, .int .i64 on, .int .i64 v, .int .i64 t] 45), kX.alloc (.cells #[.int .i64 s, .int .i64 l, .int .i64 o, .int .i64 wt, .int .i64 on, .int .i64 v, .int .i64 t] 45), G.alloc G.size (.cells #[.int .i64 s, .int .i64 l, .int .i64 o, .int .i64 wt, .int .i64 on, .int .i64 v, .int .i64 t] 45)⟩ : _ ∧ _ ∧ _)
    clear hown kX G
    have hLk : Hid (L (k + 1) = L k) := hide (by rw [HL.out]; simp only [lineM, waitQ, getD_of Ht.out]; simp [hh.out])
    go_wp2
    go_roundw
    case rel => exact ⟨k + 1, g, cap, by omega, by go_num, by rw [hLk.out], by rw [hLk.out]; exact H1.out.1, H1.out.2.1, H1.out.2.2⟩
    case measure => simp [intOf]; omega
   have h1b : (s != 3) = false := by simp [h1]
   have h2b : (wt != wa) = false := by simp [h2]
   have h3b : (on != oa) = false := by simp [h3]
   have hlen1 : (L k).length ≤ k := by rw [HL.out]; exact lineM_length _ _ _
   have hmem : Hid (∀ x ∈ L k, ∃ j : Nat, x = j ∧ j < k) := hide (by rw [HL.out]; exact lineM_mem _ _ _)
   obtain ⟨PP, hPP⟩ : ∃ PP : Int → Bool, PP = waitP ts k := ⟨_, rfl⟩
   have hLk : Hid (L (k + 1) = insAt (L k) (posDown PP (L k) (L k).length) k) := hide (by rw [hPP, HL.out]; simp only [lineM, waitQ, getD_of Ht.out]; simp [h1, h2, h3])
   have HPP := hide hPP
   clear hPP h1 h2 h3
   obtain ⟨xs, hxs⟩ : ∃ xs, xs = L k := ⟨_, rfl⟩
   rw [← hxs] at hown hlen1 hmem hLk ⊢
   clear hxs
   have hgV : g < V.heap.size := (hown.lt g rfl).2
   have hgB : w.heap.size + 1 ≤ g := (hown.lt g rfl).1
   have hXV : w.heap.size < V.heap.size := kX.lt
   have hrow0 := (H.out.below G).below (Below.alloc (Below.refl V.heap.size V) (Nat.le_refl _) (.cells #[.int .i64 s, .int .i64 l, .int .i64 o, .int .i64 wt, .int .i64 on, .int .i64 v, .int .i64 t] 45))
   have G0 := G.alloc G.size (.cells #[.int .i64 s, .int .i64 l, .int .i64 o, .int .i64 wt, .int .i64 on, .int .i64 v, .int .i64 t] 45)
   replace hown := hown.alloc (.cells #[.int .i64 s, .int .i64 l, .int .i64 o, .int .i64 wt, .int .i64 on, .int .i64 v, .int .i64 t] 45)
   replace kX := kX.alloc (.cells #[.int .i64 s, .int .i64 l, .int .i64 o, .int .i64 wt, .int .i64 on, .int .i64 v, .int .i64 t] 45)
   have kT := Blk.new V 45 #[.int .i64 s, .int .i64 l, .int .i64 o, .int .i64 wt, .int .i64 on, .int .i64 v, .int .i64 t]
   have zV : (V.alloc (.cells #[.int .i64 s, .int .i64 l, .int .i64 o, .int .i64 wt, .int .i64 on, .int .i64 v, .int .i64 t] 45)).heap.size = V.heap.size + 1 := by simp
   clear G
   go_wp2_with fail
   generalize V.alloc (.cells #[.int .i64 s, .int .i64 l, .int .i64 o, .int .i64 wt, .int .i64 on, .int .i64 v, .int .i64 t] 45) = V1 at hown kX kT zV hrow0 G0 ⊢
   have H1 := hide (⟨hown, kX, G0⟩ : _ ∧ _ ∧ _)
   have H2 := hide (⟨kT, hrow0⟩ : _ ∧ _)
   clear hown kX kT hrow0 G0 y0 y1 y2 y3 y4 y5 y6
   go_loopw [10] (fun j wr => ∃ (q : Nat), q ≤ xs.length ∧ j = .int .i64 q ∧ posDown PP xs xs.length = posDown PP xs q ∧ Below V1.heap.size V1 wr) (fun j _ => (intOf j).toNat)
   case atStart => exact ⟨xs.length, Nat.le_refl _, rfl, rfl, Below.refl _ _⟩
   case round =>
    rename World => U
    obtain ⟨q, hq, rfl, hpd, G2⟩ := hrel
    have Hpd := hide hpd
    clear hpd
    have hV1w : w.heap.size < V1.heap.size := by omega
    have hV1T : V.heap.size < V1.heap.size := by omega
    have kX := H1.out.2.1.below G2 hV1w
    have kT := H2.out.1.below G2 hV1T
    have ownU := Own.below H1.out.1 G2
    have zU := G2.size
    rcases Nat.eq_zero_or_pos q with hq0 | hq0
    ·subst hq0
     go_wp2_with fail
     have HG := hide (⟨G2, G2.size⟩ : Below V1.heap.size V1 U ∧ V1.heap.size ≤ U.heap.size)
     clear kX kT ownU G2 zU
     have hx0 := KeptW.mk'_w (Below.refl U.heap.size U)
     generalize KeptW.mk' (Below.refl U.heap.size U) = x at hx0
     rw [← hx0]
     clear hx0
     refine region_kept (by kernel_rfl) (by kernel_rfl) ?_
     repeat (go_big_quiet_step (fail))
     refine wpQuiet_nil ?_
     rintro _ ⟨x, rfl⟩
     obtain ⟨Z, hZ, GZ⟩ : ∃ Z, Z = x.w ∧ Below V1.heap.size V1 Z := ⟨_, rfl, HG.out.1.trans (x.below.mono HG.out.2)⟩
     rw [← hZ]
     clear hZ x
     have hpos : Hid (posDown PP xs xs.length = 0) := hide (by rw [Hpd.out]; rfl)
     have ownZ := Own.below H1.out.1 GZ
     have zZ := GZ.size
     have hVw : w.heap.size + 1 ≤ V1.heap.size := by omega
     go_wp2_with (first | (at_builtin; refine wpList_append_row rfl (.tmp 61) (.tmp 64) 32 rfl (Z.heap.size) 2 i0 (.int .i64 0) 1 8 Tryz.underlying32 hi hz0 hz1 hz2 rfl (by decide) (.slice (some ⟨Z.heap.size, 0, none⟩) 0 0) (0) ([]) rfl (World.ownsRow_lit (base := Z.heap.size) Z #[] 0 (Nat.le_refl _) (by simp [maxLen]) (by simp)) _ _ _ (icells (xs.drop 0)) rfl (by simp [icells] <;> omega) (Row.tailI (k := 0) (Row.of_own (ownZ.alloc _)) (by intro h; first | rfl | (simp; done))) (icells_oneL _) (by unfold maxLen; omega) (by omega) (by first | omega | (simp; done) | (simp; omega)) ?_; intro v1 Z1 hown1 hgr1 hiff1; obtain ⟨g1, cap1, hv1, hg1, hg1l⟩ := Own.shape hown1 (fun e => absurd (hiff1.1 e).1 (by simp)); subst hv1; have ownZ1 := rowGrown (r := Z.heap.size) (ownZ.alloc (.cells #[] 2)) hgr1 (by omega); have zz1 := hgr1.size; simp at zz1) | (at_builtin; refine wpList_append_row rfl (.tmp 68) (.tmp 70) 32 rfl (w.heap.size + 1) 2 i0 (.int .i64 0) 1 8 Tryz.underlying32 hi hz0 hz1 hz2 rfl (by decide) (.slice (some ⟨g, 0, none⟩) (0) cap) (0) (icells (xs.take 0)) rfl ((Own.cutI ownZ1 (by omega)).alloc _) _ _ _ (icells [(k : Int)]) rfl (by simp [icells] <;> omega) (rowOne _ _ _) (icells_oneL _) (by unfold maxLen; omega) (by omega) (by first | omega | (simp; done) | (simp; omega)) ?_; intro v2 Z2 hown2 hgr2 hiff2; obtain ⟨g2, cap2, hv2, hg2, hg2l⟩ := Own.shape hown2 (fun e => absurd (hiff2.1 e).1 (by simp)); subst hv2; have ownR2 := rowGrown (r := g) (hown1.alloc (.cells #[.int .i64 k] 2)) hgr2 (by omega); have zz2 := hgr2.size; simp at zz2) | (at_builtin; refine wpList_append_row rfl (.tmp 71) (.tmp 72) 32 rfl (w.heap.size + 1) 2 i0 (.int .i64 0) 1 8 Tryz.underlying32 hi hz0 hz1 hz2 rfl (by decide) (.slice (some ⟨g2, 0, none⟩) (0 + 1) cap2) (0 + 1) (icells (xs.take 0) ++ icells [(k : Int)]) rfl (hown2) _ _ _ (icells (xs.drop 0)) rfl (by simp [icells] <;> omega) (Row.of_own ownR2) (icells_oneL _) (by unfold maxLen; omega) (by omega) (by first | omega | (simp; done) | (simp; omega)) ?_; intro v3 Z3 hown3 hgr3 hiff3; obtain ⟨g3, cap3, hv3, hg3, hg3l⟩ := Own.shape hown3 (fun e => absurd (hiff3.1 e).1 (by simp)); subst hv3))
     go_roundw
     case rel =>
      obtain ⟨ho, hn⟩ := own_ins hown3 (ys := L (k + 1)) (by rw [hLk.out, hpos.out]; simp [insAt, icells])
      have kX0 := H1.out.2.1.below GZ H1.out.2.1.lt
      have kX1 := (kX0.alloc (.cells #[] 2)).grown (row := some Z.heap.size) hgr1 (by intro e; injection e; omega)
      have kX2 := (kX1.alloc (.cells #[.int .i64 k] 2)).grown (row := some g) hgr2 (by intro e; injection e; omega)
      have kX3 := kX2.grown (row := some g2) hgr3 (by intro e; injection e; omega)
      have G0 := H1.out.2.2.trans (GZ.mono (by omega))
      have G1 := Below.grown (row := some Z.heap.size) (G0.alloc (by omega) (.cells #[] 2)) hgr1 (by simp; omega) (by intro r e; injection e; omega)
      have G2 := Below.grown (row := some g) (G1.alloc (by omega) (.cells #[.int .i64 k] 2)) hgr2 (by simp; omega) (by intro r e; injection e; omega)
      have G3 := Below.grown (row := some g2) G2 hgr3 (by omega) (by intro r e; injection e; omega)
      exact ⟨k + 1, g3, cap3, by omega, by go_num, by congr 1; try omega, ho, kX3, G3⟩
     case measure => simp [intOf]; omega
    ·obtain ⟨p, rfl⟩ : ∃ p, q = p + 1 := ⟨q - 1, by omega⟩
     have hp : p < xs.length := by omega
     obtain ⟨xv, hxv, yx⟩ := Own.i1 ownU (k := p) hp
     obtain ⟨j, rfl, hjk⟩ := hmem.out xv (List.mem_of_getElem? hxv)
     have hjl : j < ts.length := by omega
     obtain ⟨b2, off2, s2, l2, o2, wt2, on2, v2, t2, hA, _, hj, hb2, x0, x1, x2, x3, x4, x5, x6⟩ := (H2.out.2.below G2).ts_at hjl
     injection hA with hA
     injection hA with hA1 hA2
     subst hA1 hA2
     have hPx : PP (xs.getD p 0) = decide (t < t2) := by
      rw [HPP.out, List.getD_eq_getElem?_getD, hxv]
      simp only [Option.getD_some]
      have e1 := getD_of Ht.out
      have e2 := taskAt_of hj
      simp only [waitP, e1, e2]
     have hstep : posDown PP xs (p + 1) = if PP (xs.getD p 0) then posDown PP xs p else p + 1 := rfl
     rw [hPx] at hstep
     have cX0 := KeptW.cell (W0 := U) (b := w.heap.size) (o := 0) (u := .slice (some ⟨b', off, none⟩) ts.length c0) (kX.cell 0)
     have cT0 := KeptW.cell (W0 := U) (b := V.heap.size) (o := 0) (u := .int .i64 s) (kT.cell 0)
     have cT1 := KeptW.cell (W0 := U) (b := V.heap.size) (o := 1) (u := .int .i64 l) (kT.cell 1)
     have cT2 := KeptW.cell (W0 := U) (b := V.heap.size) (o := 2) (u := .int .i64 o) (kT.cell 2)
     have cT3 := KeptW.cell (W0 := U) (b := V.heap.size) (o := 3) (u := .int .i64 wt) (kT.cell 3)
     have cT4 := KeptW.cell (W0 := U) (b := V.heap.size) (o := 4) (u := .int .i64 on) (kT.cell 4)
     have cT5 := KeptW.cell (W0 := U) (b := V.heap.size) (o := 5) (u := .int .i64 v) (kT.cell 5)
     have cT6 := KeptW.cell (W0 := U) (b := V.heap.size) (o := 6) (u := .int .i64 t) (kT.cell 6)
     have cy := KeptW.cell (W0 := U) (b := g) (o := p) (u := .int .i64 j) yx
     have cz := KeptW.cell (W0 := U) (b := b') (o := off + j * 7 + 6) (u := .int .i64 t2) x6
     have hcl : xs.length ≤ cap := own_cap H1.out.1
     have hcap : p + 1 ≤ cap := by omega
     clear hPx hj hxv yx x0 x1 x2 x3 x4 x5 x6
     go_wp2_with fail
     by_cases hlt2 : t < t2
     ·have hyes : Hid (posDown PP xs (p + 1) = posDown PP xs p) := hide (by rw [hstep]; simp [hlt2])
      have hd : decide (t < t2) = true := by simpa using hlt2
      clear hstep
      have HG := hide (⟨G2, G2.size⟩ : Below V1.heap.size V1 U ∧ V1.heap.size ≤ U.heap.size)
      clear kX kT ownU G2 zU
      have hx0 := KeptW.mk'_w (Below.refl U.heap.size U)
      generalize KeptW.mk' (Below.refl U.heap.size U) = x at hx0
      rw [← hx0]
      clear hx0
      refine region_kept (by kernel_rfl) (by kernel_rfl) ?_
      repeat (go_big_quiet_step (fail))
      refine wpQuiet_nil ?_
      rintro _ ⟨x, rfl⟩
      go_wp2
      go_roundw
      case rel => exact ⟨p, by omega, by go_num, by rw [Hpd.out, hyes.out], HG.out.1.trans (x.below.mono HG.out.2)⟩
      case measure => simp [intOf]
     ·have hno : Hid (posDown PP xs (p + 1) = p + 1) := hide (by rw [hstep]; simp [hlt2])
      have hd : decide (t < t2) = false := by simpa using hlt2
      clear hstep
      have HG := hide (⟨G2, G2.size⟩ : Below V1.heap.size V1 U ∧ V1.heap.size ≤ U.heap.size)
      clear kX kT ownU G2 zU
      have hx0 := KeptW.mk'_w (Below.refl U.heap.size U)
      generalize KeptW.mk' (Below.refl U.heap.size U) = x at hx0
      rw [← hx0]
      clear hx0
      refine region_kept (by kernel_rfl) (by kernel_rfl) ?_
      repeat (go_big_quiet_step (fail))
      refine wpQuiet_nil ?_
      rintro _ ⟨x, rfl⟩
      obtain ⟨Z, hZ, GZ⟩ : ∃ Z, Z = x.w ∧ Below V1.heap.size V1 Z := ⟨_, rfl, HG.out.1.trans (x.below.mono HG.out.2)⟩
      rw [← hZ]
      clear hZ x
      by_cases hcq : cap = p + 1
      ·subst hcq
       have hpos : Hid (posDown PP xs xs.length = (p + 1)) := hide (by rw [Hpd.out, hno.out])
       have ownZ := Own.below H1.out.1 GZ
       have zZ := GZ.size
       have hVw : w.heap.size + 1 ≤ V1.heap.size := by omega
       go_wp2_with (first | (at_builtin; refine wpList_append_row rfl (.tmp 61) (.tmp 64) 32 rfl (Z.heap.size) 2 i0 (.int .i64 0) 1 8 Tryz.underlying32 hi hz0 hz1 hz2 rfl (by decide) (.slice (some ⟨Z.heap.size, 0, none⟩) 0 0) (0) ([]) rfl (World.ownsRow_lit (base := Z.heap.size) Z #[] 0 (Nat.le_refl _) (by simp [maxLen]) (by simp)) _ _ _ (icells (xs.drop (p + 1))) rfl (by simp [icells] <;> omega) (Row.tailI (k := (p + 1)) (Row.of_own (ownZ.alloc _)) (by intro h; first | omega | rfl | (simp; done))) (icells_oneL _) (by unfold maxLen; omega) (by omega) (by first | omega | (simp; done) | (simp; omega)) ?_; intro v1 Z1 hown1 hgr1 hiff1; obtain ⟨g1, cap1, hv1, hg1, hg1l⟩ := Own.shape hown1 (fun e => absurd (hiff1.1 e).1 (by simp)); subst hv1; have ownZ1 := rowGrown (r := Z.heap.size) (ownZ.alloc (.cells #[] 2)) hgr1 (by omega); have zz1 := hgr1.size; simp at zz1) | (at_builtin; refine wpList_append_row rfl (.tmp 68) (.tmp 70) 32 rfl (w.heap.size + 1) 2 i0 (.int .i64 0) 1 8 Tryz.underlying32 hi hz0 hz1 hz2 rfl (by decide) (.slice (some ⟨g, 0, none⟩) ((p + 1)) (p + 1)) ((p + 1)) (icells (xs.take (p + 1))) rfl ((Own.cutI ownZ1 (by omega)).alloc _) _ _ _ (icells [(k : Int)]) rfl (by simp [icells] <;> omega) (rowOne _ _ _) (icells_oneL _) (by unfold maxLen; omega) (by omega) (by first | omega | (simp; done) | (simp; omega)) ?_; intro v2 Z2 hown2 hgr2 hiff2; obtain ⟨g2, cap2, hv2, hg2, hg2l⟩ := Own.shape hown2 (fun e => absurd (hiff2.1 e).1 (by simp)); subst hv2; have ownR2 := rowGrown (r := g) (hown1.alloc (.cells #[.int .i64 k] 2)) hgr2 (by omega); have zz2 := hgr2.size; simp at zz2) | (at_builtin; refine wpList_append_row rfl (.tmp 71) (.tmp 72) 32 rfl (w.heap.size + 1) 2 i0 (.int .i64 0) 1 8 Tryz.underlying32 hi hz0 hz1 hz2 rfl (by decide) (.slice (some ⟨g2, 0, none⟩) ((p + 1) + 1) cap2) ((p + 1) + 1) (icells (xs.take (p + 1)) ++ icells [(k : Int)]) rfl (hown2) _ _ _ (icells (xs.drop (p + 1))) rfl (by simp [icells] <;> omega) (Row.of_own ownR2) (icells_oneL _) (by unfold maxLen; omega) (by omega) (by first | omega | (simp; done) | (simp; omega)) ?_; intro v3 Z3 hown3 hgr3 hiff3; obtain ⟨g3, cap3, hv3, hg3, hg3l⟩ := Own.shape hown3 (fun e => absurd (hiff3.1 e).1 (by simp)); subst hv3))
       go_roundw
       case rel =>
        obtain ⟨ho, hn⟩ := own_ins hown3 (ys := L (k + 1)) (by rw [hLk.out, hpos.out]; simp [insAt, icells])
        have kX0 := H1.out.2.1.below GZ H1.out.2.1.lt
        have kX1 := (kX0.alloc (.cells #[] 2)).grown (row := some Z.heap.size) hgr1 (by intro e; injection e; omega)
        have kX2 := (kX1.alloc (.cells #[.int .i64 k] 2)).grown (row := some g) hgr2 (by intro e; injection e; omega)
        have kX3 := kX2.grown (row := some g2) hgr3 (by intro e; injection e; omega)
        have G0 := H1.out.2.2.trans (GZ.mono (by omega))
        have G1 := Below.grown (row := some Z.heap.size) (G0.alloc (by omega) (.cells #[] 2)) hgr1 (by simp; omega) (by intro r e; injection e; omega)
        have G2 := Below.grown (row := some g) (G1.alloc (by omega) (.cells #[.int .i64 k] 2)) hgr2 (by simp; omega) (by intro r e; injection e; omega)
        have G3 := Below.grown (row := some g2) G2 hgr3 (by omega) (by intro r e; injection e; omega)
        exact ⟨k + 1, g3, cap3, by omega, by go_num, by congr 1; try omega, ho, kX3, G3⟩
       case measure => simp [intOf]; omega
      ·have hpos : Hid (posDown PP xs xs.length = (p + 1)) := hide (by rw [Hpd.out, hno.out])
       have ownZ := Own.below H1.out.1 GZ
       have zZ := GZ.size
       have hVw : w.heap.size + 1 ≤ V1.heap.size := by omega
       go_wp2_with (first | (at_builtin; refine wpList_append_row rfl (.tmp 61) (.tmp 64) 32 rfl (Z.heap.size) 2 i0 (.int .i64 0) 1 8 Tryz.underlying32 hi hz0 hz1 hz2 rfl (by decide) (.slice (some ⟨Z.heap.size, 0, none⟩) 0 0) (0) ([]) rfl (World.ownsRow_lit (base := Z.heap.size) Z #[] 0 (Nat.le_refl _) (by simp [maxLen]) (by simp)) _ _ _ (icells (xs.drop (p + 1))) rfl (by simp [icells] <;> omega) (Row.tailI (k := (p + 1)) (Row.of_own (ownZ.alloc _)) (by intro h; first | rfl | omega | (simp; done))) (icells_oneL _) (by unfold maxLen; omega) (by omega) (by first | omega | (simp; done) | (simp; omega)) ?_; intro v1 Z1 hown1 hgr1 hiff1; obtain ⟨g1, cap1, hv1, hg1, hg1l⟩ := Own.shape hown1 (fun e => absurd (hiff1.1 e).1 (by simp)); subst hv1; have ownZ1 := rowGrown (r := Z.heap.size) (ownZ.alloc (.cells #[] 2)) hgr1 (by omega); have zz1 := hgr1.size; simp at zz1) | (at_builtin; refine wpList_append_row rfl (.tmp 68) (.tmp 70) 32 rfl (w.heap.size + 1) 2 i0 (.int .i64 0) 1 8 Tryz.underlying32 hi hz0 hz1 hz2 rfl (by decide) (.slice (some ⟨g, 0, none⟩) ((p + 1)) cap) ((p + 1)) (icells (xs.take (p + 1))) rfl ((Own.cutI ownZ1 (by omega)).alloc _) _ _ _ (icells [(k : Int)]) rfl (by simp [icells] <;> omega) (rowOne _ _ _) (icells_oneL _) (by unfold maxLen; omega) (by omega) (by first | omega | (simp; done) | (simp; omega)) ?_; intro v2 Z2 hown2 hgr2 hiff2; obtain ⟨g2, cap2, hv2, hg2, hg2l⟩ := Own.shape hown2 (fun e => absurd (hiff2.1 e).1 (by simp)); subst hv2; have ownR2 := rowGrown (r := g) (hown1.alloc (.cells #[.int .i64 k] 2)) hgr2 (by omega); have zz2 := hgr2.size; simp at zz2) | (at_builtin; refine wpList_append_row rfl (.tmp 71) (.tmp 72) 32 rfl (w.heap.size + 1) 2 i0 (.int .i64 0) 1 8 Tryz.underlying32 hi hz0 hz1 hz2 rfl (by decide) (.slice (some ⟨g2, 0, none⟩) ((p + 1) + 1) cap2) ((p + 1) + 1) (icells (xs.take (p + 1)) ++ icells [(k : Int)]) rfl (hown2) _ _ _ (icells (xs.drop (p + 1))) rfl (by simp [icells] <;> omega) (Row.of_own ownR2) (icells_oneL _) (by unfold maxLen; omega) (by omega) (by first | omega | (simp; done) | (simp; omega)) ?_; intro v3 Z3 hown3 hgr3 hiff3; obtain ⟨g3, cap3, hv3, hg3, hg3l⟩ := Own.shape hown3 (fun e => absurd (hiff3.1 e).1 (by simp)); subst hv3))
       go_roundw
       case rel =>
        obtain ⟨ho, hn⟩ := own_ins hown3 (ys := L (k + 1)) (by rw [hLk.out, hpos.out]; simp [insAt, icells])
        have kX0 := H1.out.2.1.below GZ H1.out.2.1.lt
        have kX1 := (kX0.alloc (.cells #[] 2)).grown (row := some Z.heap.size) hgr1 (by intro e; injection e; omega)
        have kX2 := (kX1.alloc (.cells #[.int .i64 k] 2)).grown (row := some g) hgr2 (by intro e; injection e; omega)
        have kX3 := kX2.grown (row := some g2) hgr3 (by intro e; injection e; omega)
        have G0 := H1.out.2.2.trans (GZ.mono (by omega))
        have G1 := Below.grown (row := some Z.heap.size) (G0.alloc (by omega) (.cells #[] 2)) hgr1 (by simp; omega) (by intro r e; injection e; omega)
        have G2 := Below.grown (row := some g) (G1.alloc (by omega) (.cells #[.int .i64 k] 2)) hgr2 (by simp; omega) (by intro r e; injection e; omega)
        have G3 := Below.grown (row := some g2) G2 hgr3 (by omega) (by intro r e; injection e; omega)
        exact ⟨k + 1, g3, cap3, by omega, by go_num, by congr 1; try omega, ho, kX3, G3⟩
       case measure => simp [intOf]; omega
  ·obtain rfl : k = ts.length := by omega
   have qX0 : V.cell? ⟨w.heap.size, 0, none⟩ = some (.slice A0 ts.length c0) := kX.cell 0
   have H1 := hide (⟨hown, G⟩ : _ ∧ _)
   clear hown kX G
   go_wp2
   go_ret
   exact ⟨_, _, rfl, Own.lower H1.out.1 (by omega), H1.out.2⟩
end Go.Proofs.YtfkdfkoigojciaaGreatDoor
