/- The model's copy of a pool: new memory that holds the same. The lists no longer than a million. -/
import Derived.Test.YtfkdfkoigojciaaGreatDoorQB04
import Derived.Test.YtfkdfkoigojciaaGreatDoorQB01
import Derived.Laws.CopyRow
import Derived.Laws.IdiomCopy
import Derived.Deep.RegionLaw
import Derived.Deep.RegionHeld3
import Derived.Test.YtfkdfkoigojciaaGreatDoorQB03

namespace Go.Proofs.YtfkdfkoigojciaaGreatDoor
open Go.RowKit
set_option linter.unusedVariables false
def posDown (P : Int → Bool) (xs : List Int) : Nat → Nat
 | 0 => 0
 | k + 1 => if P (xs.getD k 0) then posDown P xs k else k + 1
def insAt (xs : List Int) (k : Nat) (i : Int) : List Int := (xs.take k ++ [i]) ++ xs.drop k
def lineM (q : Nat → Bool) (P : Nat → Int → Bool) : Nat → List Int
 | 0 => []
 | k + 1 => if q k then insAt (lineM q P k) (posDown (P k) (lineM q P k) (lineM q P k).length) k else lineM q P k
def taskAt (ts : List T7) (j : Int) : T7 := ts.getD j.toNat default
def waitQ (ts : List T7) (wt on : Int) (k : Nat) : Bool := (ts.getD k default).s == 3 && ((ts.getD k default).wt == wt && (ts.getD k default).on == on)
def waitP (ts : List T7) (k : Nat) (j : Int) : Bool := decide ((ts.getD k default).t < (taskAt ts j).t)
def waitersM (ts : List T7) (wt on : Int) : List Int := lineM (waitQ ts wt on) (waitP ts) ts.length
theorem posDown_le (P : Int → Bool) (xs : List Int) (k : Nat) : posDown P xs k ≤ k := by
 induction k with
 | zero => simp [posDown]
 | succ k ih => simp only [posDown]; split <;> omega
theorem insAt_length (xs : List Int) (k : Nat) (i : Int) (hk : k ≤ xs.length) : (insAt xs k i).length = xs.length + 1 := by simp [insAt]; omega
theorem lineM_length (q : Nat → Bool) (P : Nat → Int → Bool) (k : Nat) : (lineM q P k).length ≤ k := by
 induction k with
 | zero => simp [lineM]
 | succ k ih =>
  simp only [lineM]; split
  ·rw [insAt_length _ _ _ (posDown_le _ _ _)]; omega
  ·omega
theorem lineM_mem (q : Nat → Bool) (P : Nat → Int → Bool) (k : Nat) : ∀ x ∈ lineM q P k, ∃ j : Nat, x = j ∧ j < k := by
 induction k with
 | zero => simp [lineM]
 | succ k ih =>
  simp only [lineM]; split
  ·intro x hx
   simp only [insAt, List.mem_append, List.mem_singleton] at hx
   rcases hx with (hx | rfl) | hx
   ·obtain ⟨j, h1, h2⟩ := ih x (List.mem_of_mem_take hx); exact ⟨j, h1, by omega⟩
   ·exact ⟨k, rfl, by omega⟩
   ·obtain ⟨j, h1, h2⟩ := ih x (List.mem_of_mem_drop hx); exact ⟨j, h1, by omega⟩
  ·intro x hx; obtain ⟨j, h1, h2⟩ := ih x hx; exact ⟨j, h1, by omega⟩
theorem icells_drop (xs : List Int) (k : Nat) : (icells xs).drop k = icells (xs.drop k) := by simp [icells, List.map_drop]
theorem icells_take (xs : List Int) (k : Nat) : (icells xs).take (k * 1) = icells (xs.take k) := by rw [Nat.mul_one]; simp [icells, List.map_take]
theorem getD_of {ts : List T7} {k : Nat} {x : T7} (h : ts[k]? = some x) : ts.getD k default = x := by rw [List.getD_eq_getElem?_getD, h]; rfl
theorem taskAt_of {ts : List T7} {k : Nat} {x : T7} (h : ts[k]? = some x) : taskAt ts (k : Int) = x := by simp only [taskAt, Int.toNat_natCast]; exact getD_of h
theorem Row.tailI {w : World} {g k : Nat} {xs : List Int} {A : Option Addr} (h : Row w (some ⟨g, 0, none⟩) (icells xs)) (hA : k < xs.length → A = some ⟨g, k, none⟩) : Row w A (icells (xs.drop k)) := by
 rw [← icells_drop]; exact h.tail A (fun hk => hA (by rw [icells_length] at hk; exact hk))
theorem Own.cutI {w : World} {base g n c k : Nat} {e : TypeId} {xs : List Int} (h : w.ownsRow base e 1 (.slice (some ⟨g, 0, none⟩) n c) n (icells xs)) (hk : k ≤ n) : w.ownsRow base e 1 (.slice (some ⟨g, 0, none⟩) k c) k (icells (xs.take k)) := by
 rw [← icells_take]; exact Own.cut h hk
theorem rowOne (w : World) (v : Int) (t : TypeId) : Row (w.alloc (.cells #[.int .i64 v] t)) (some ⟨w.heap.size, 0, none⟩) (icells [v]) :=
 Row.of_own (World.ownsRow_lit (base := 0) (e := t) (size := 1) w #[.int .i64 v] 1 (Nat.zero_le _) (by simp [maxLen]) (by simp))
theorem rowGrown {w w' : World} {base : Nat} {e : TypeId} {size g n c r : Nat} {xs : List Value} (h : w.ownsRow base e size (.slice (some ⟨g, 0, none⟩) n c) n xs) (hg : w.grownBy w' (some r)) (hne : g ≠ r) : w'.ownsRow base e size (.slice (some ⟨g, 0, none⟩) n c) n xs :=
 h.kept hg (.inr (by simp only [Value.ownBlock]; intro e; injection e with e; exact hne e))
theorem own_cap {w : World} {base : Nat} {e : TypeId} {size g n c : Nat} {xs : List Value} (h : w.ownsRow base e size (.slice (some ⟨g, 0, none⟩) n c) n xs) : n ≤ c := by
 rcases h.2 with ⟨hv, _⟩ | ⟨g', cap, cur, hv, _, _, h1, _⟩
 ·cases hv
 ·injection hv with _ _ e3
  omega
theorem own_ins {w : World} {base g n c : Nat} {e : TypeId} {zs : List Value} {ys : List Int} (h : w.ownsRow base e 1 (.slice (some ⟨g, 0, none⟩) n c) n zs) (hz : zs = icells ys) : w.ownsRow base e 1 (.slice (some ⟨g, 0, none⟩) ys.length c) ys.length (icells ys) ∧ n = ys.length := by
 subst hz
 have hn : n = ys.length := by have := h.1; rw [icells_length] at this; omega
 subst hn
 exact ⟨h, rfl⟩
/-- What a row that is not nil looks like. -/
theorem Own.shape {w : World} {base : Nat} {e : TypeId} {size n : Nat} {v : Value} {xs : List Value} (h : w.ownsRow base e size v n xs) (hv : v ≠ .slice none 0 0) : ∃ g cap, v = .slice (some ⟨g, 0, none⟩) n cap ∧ base ≤ g ∧ g < w.heap.size := by
 rcases h.2 with ⟨h1, _⟩ | ⟨g, cap, cur, h1, h2, h3, _⟩
 ·exact absurd h1 hv
 ·exact ⟨g, cap, h1, h2, Blk.lt (t := e) (cs := cur) h3⟩
theorem icells_oneL (ks : List Int) : ∀ v ∈ icells ks, v.oneCell' = true := by
 intro v hv
 obtain ⟨t, _, rfl⟩ := List.mem_map.1 hv
 rfl
set_option maxRecDepth 100000 in
set_option maxHeartbeats 16000000 in
theorem waitersOn_any (ts : List T7) (A0 A1 A2 : Option Addr) (c0 n1 c1 n2 c2 : Nat) (tn : Int) (st : Bool) (wa oa : Int) (w : World) (hlen : ts.length ≤ 1048576) (h : Row w A0 (tcells ts)) :
 Calls Tryz.prog 97 #[.agg #[.slice A0 ts.length c0, .slice A1 n1 c1, .slice A2 n2 c2, .int .i64 tn, .bool st], .int .i64 wa, .int .i64 oa] w fun r w' => ∃ (A : Option Addr) (c : Nat), r = .returned (.slice A (waitersM ts wa oa).length c) ∧ w'.ownsRow w.heap.size 2 1 (.slice A (waitersM ts wa oa).length c) (waitersM ts wa oa).length (icells (waitersM ts wa oa)) ∧ Below w.heap.size w w' := by
 have H := hide h
 clear h
 obtain ⟨i0, hi, hz0, hz1, hz2⟩ := info_parts infoInt
 unfold waitersM
 obtain ⟨L, hL⟩ : ∃ L : Nat → List Int, L = lineM (waitQ ts wa oa) (waitP ts) := ⟨_, rfl⟩
 rw [← hL]
 have HL := hide hL
 clear hL
 go_enter Tryz.func97, Tryz.ntmps97
 go_wp2
 have G := Below.refl w.heap.size w
 have kX := Blk.new w 35 #[.slice A0 ts.length c0, .slice A1 n1 c1, .slice A2 n2 c2, .int .i64 tn, .bool st]
 have hbs := G.size
 replace G := G.alloc (by omega) (.cells #[.slice A0 ts.length c0, .slice A1 n1 c1, .slice A2 n2 c2, .int .i64 tn, .bool st] 35)
 have z1 : (w.alloc (.cells #[.slice A0 ts.length c0, .slice A1 n1 c1, .slice A2 n2 c2, .int .i64 tn, .bool st] 35)).heap.size = w.heap.size + 1 := by simp
 clear hbs
 generalize w.alloc (.cells #[.slice A0 ts.length c0, .slice A1 n1 c1, .slice A2 n2 c2, .int .i64 tn, .bool st] 35) = W1 at kX G z1 ⊢
 have own0 := World.ownsRow_lit (base := w.heap.size + 1) (e := 2) (size := 1) W1 #[] 0 (by omega) (by simp [maxLen]) (by simp)
 replace kX := kX.alloc (.cells #[] 2)
 have hbs := G.size
 replace G := G.alloc (by omega) (.cells #[] 2)
 have z2 : (W1.alloc (.cells #[] 2)).heap.size = W1.heap.size + 1 := by simp
 generalize W1.alloc (.cells #[] 2) = W2 at kX G z2 own0 ⊢
 have hB := hide (⟨kX, G, G.size⟩ : _ ∧ _ ∧ w.heap.size ≤ W2.heap.size)
 have hw1 : w.heap.size + 1 ≤ W2.heap.size := by omega
 clear hbs kX
 go_loopw [7, 8] (fun v i wr => ∃ (k g cap : Nat), k ≤ ts.length ∧ i = .int .i64 k ∧ v = .slice (some ⟨g, 0, none⟩) (L k).length cap ∧ wr.ownsRow (w.heap.size + 1) 2 1 (.slice (some ⟨g, 0, none⟩) (L k).length cap) (L k).length (icells (L k)) ∧ Blk wr w.heap.size 35 #[.slice A0 ts.length c0, .slice A1 n1 c1, .slice A2 n2 c2, .int .i64 tn, .bool st] ∧ Below w.heap.size w wr) (fun _ i _ => ts.length - (intOf i).toNat)
 case atStart => exact ⟨0, W1.heap.size, 0, Nat.zero_le _, rfl, by rw [HL.out]; simp [lineM], by rw [HL.out]; simpa [lineM, icells] using own0, hB.out.1, G⟩
 case round =>
  clear G own0
  rename World => V
  obtain ⟨k, g, cap, hk, rfl, rfl, hown, kX, G⟩ := hrel
  have z0 := G.size
  by_cases hlt : k < ts.length
  ·obtain ⟨b', off, s, l, o, wt, on, v, t, rfl, _, ht, hb', y0, y1, y2, y3, y4, y5, y6⟩ := (H.out.below G).ts_at hlt
   have Ht := hide ht
   clear ht
   have tX : w.heap.size < V.heap.size := kX.lt
   have qX0 : V.cell? ⟨w.heap.size, 0, none⟩ = some (.slice (some ⟨b', off, none⟩) ts.length c0) := kX.cell 0
   have qX1 : V.cell? ⟨w.heap.size, 1, none⟩ = some (.slice A1 n1 c1) := kX.cell 1
   have qX2 : V.cell? ⟨w.heap.size, 2, none⟩ = some (.slice A2 n2 c2) := kX.cell 2
   have qX3 : V.cell? ⟨w.heap.size, 3, none⟩ = some (.int .i64 tn) := kX.cell 3
   have qX4 : V.cell? ⟨w.heap.size, 4, none⟩ = some (.bool st) := kX.cell 4
   by_cases h1 : s = 3
   rotate_left
   ·have h1b : (s != 3) = true := by simpa using h1
    have hh := hide h1
    have H1 := hide (⟨hown.alloc (.cells #[.int .i64 s, .int .i64 l, .int .i64 o, .int .i64 wt, .int .i64 on, .int .i64 v, .int .i64 t] 45), kX.alloc (.cells #[.int .i64 s, .int .i64 l, .int .i64 o, .int .i64 wt, .int .i64 on, .int .i64 v, .int .i64 t] 45), G.alloc G.size (.cells #[.int .i64 s, .int .i64 l, .int .i64 o, .int .i64 wt, .int .i64 on, .int .i64 v, .int .i64 t] 45)⟩ : _ ∧ _ ∧ _)
    clear hown kX G
    have hLk : Hid (L (k + 1) = L k) := hide (by rw [HL.out]; simp only [lineM, waitQ, getD_of Ht.out]; simp [hh.out])
    go_wp2
    go_roundw
    case rel => exact ⟨k + 1, g, cap, by omega, by go_num, by rw [hLk.out], by rw [hLk.out]; exact H1.out.1, H1.out.2.1, H1.out.2.2⟩
    case measure => simp [intOf]; omega
   by_cases h2 : wt = wa
   rotate_left
   ·have h1b : (s != 3) = false := by simp [h1]
    have h2b : (wt != wa) = true := by simpa using h2
    have hh := hide h2
    clear h1
    have H1 := hide (⟨hown.alloc (.cells #[.int .i64 s, .int .i64 l, .int .i64 o, .int .i64 wt, .int .i64 on, .int .i64 v, .int .i64 t] 45), kX.alloc (.cells #[.int .i64 s, .int .i64 l, .int .i64 o, .int .i64 wt, .int .i64 on, .int .i64 v, .int .i64 t] 45), G.alloc G.size (.cells #[.int .i64 s, .int .i64 l, .int .i64 o, .int .i64 wt, .int .i64 on, .int .i64 v, .int .i64 t] 45)⟩ : _ ∧ _ ∧ _)
    clear hown kX G
    have hLk : Hid (L (k + 1) = L k) := hide (by rw [HL.out]; simp only [lineM, waitQ, getD_of Ht.out]; simp [hh.out])
    go_wp2
    go_roundw
    case rel => exact ⟨k + 1, g, cap, by omega, by go_num, by rw [hLk.out], by rw [hLk.out]; exact H1.out.1, H1.out.2.1, H1.out.2.2⟩
    case measure => simp [intOf]; omega
   by_cases h3 : on = oa
   rotate_left
   ·have h1b : (s != 3) = false := by simp [h1]
    have h2b : (wt != wa) = false := by simp [h2]
    have h3b : (on != oa) = true := by simpa using h3
    have hh := hide h3
    clear h1 h2
    have H1 := hide (⟨hown.alloc (.cells #[.int .i64 s, .int .i64 l, .int .i64 o, .int .i64 wt, .int .i64 on, .int .i64 v, .int .i64 t] 45), kX.alloc (.cells #[.int .i64 s, .int .i64 l, .int .i64 o, .int .i64 wt, .int .i64 on, .int .i64 v, .int .i64 t] 45), G.alloc G.size (.cells #[.int .i64 s, .int .i64 l, .int .i64 o, .int .i64 wt, .int .i64 on, .int .i64 v, .int .i64 t] 45)⟩ : _ ∧ _ ∧ _)
    clear hown kX G
    have hLk : Hid (L (k + 1) = L k) := hide (by rw [HL.out]; simp only [lineM, waitQ, getD_of Ht.out]; simp [hh.out])
    go_wp2
    go_roundw
    case rel => exact ⟨k + 1, g, cap, by omega, by go_num, by rw [hLk.out], by rw [hLk.out]; exact H1.out.1, H1.out.2.1, H1.out.2.2⟩
    case measure => simp [intOf]; omega
   have h1b : (s != 3) = false := by simp [h1]
   have h2b : (wt != wa) = false := by simp [h2]
   have h3b : (on != oa) = false := by simp [h3]
   have hlen1 : (L k).length ≤ k := by rw [HL.out]; exact lineM_length _ _ _
   have hmem : Hid (∀ x ∈ L k, ∃ j : Nat, x = j ∧ j < k) := hide (by rw [HL.out]; exact lineM_mem _ _ _)
   obtain ⟨PP, hPP⟩ : ∃ PP : Int → Bool, PP = waitP ts k := ⟨_, rfl⟩
   have hLk : Hid (L (k + 1) = insAt (L k) (posDown PP (L k) (L k).length) k) := hide (by rw [hPP, HL.out]; simp only [lineM, waitQ, getD_of Ht.out]; simp [h1, h2, h3])
   have HPP := hide hPP
   clear hPP h1 h2 h3
   obtain ⟨xs, hxs⟩ : ∃ xs, xs = L k := ⟨_, rfl⟩
   rw [← hxs] at hown hlen1 hmem hLk ⊢
   clear hxs
   have hgV : g < V.heap.size := (hown.lt g rfl).2
   have hgB : w.heap.size + 1 ≤ g := (hown.lt g rfl).1
   have hXV : w.heap.size < V.heap.size := kX.lt
   have hrow0 := (H.out.below G).below (Below.alloc (Below.refl V.heap.size V) (Nat.le_refl _) (.cells #[.int .i64 s, .int .i64 l, .int .i64 o, .int .i64 wt, .int .i64 on, .int .i64 v, .int .i64 t] 45))
   have G0 := G.alloc G.size (.cells #[.int .i64 s, .int .i64 l, .int .i64 o, .int .i64 wt, .int .i64 on, .int .i64 v, .int .i64 t] 45)
   replace hown := hown.alloc (.cells #[.int .i64 s, .int .i64 l, .int .i64 o, .int .i64 wt, .int .i64 on, .int .i64 v, .int .i64 t] 45)
   replace kX := kX.alloc (.cells #[.int .i64 s, .int .i64 l, .int .i64 o, .int .i64 wt, .int .i64 on, .int .i64 v, .int .i64 t] 45)
   have kT := Blk.new V 45 #[.int .i64 s, .int .i64 l, .int .i64 o, .int .i64 wt, .int .i64 on, .int .i64 v, .int .i64 t]
   have zV : (V.alloc (.cells #[.int .i64 s, .int .i64 l, .int .i64 o, .int .i64 wt, .int .i64 on, .int .i64 v, .int .i64 t] 45)).heap.size = V.heap.size + 1 := by simp
   clear G
   go_wp2_with fail
   generalize V.alloc (.cells #[.int .i64 s, .int .i64 l, .int .i64 o, .int .i64 wt, .int .i64 on, .int .i64 v, .int .i64 t] 45) = V1 at hown kX kT zV hrow0 G0 ⊢
   have H1 := hide (⟨hown, kX, G0⟩ : _ ∧ _ ∧ _)
   have H2 := hide (⟨kT, hrow0⟩ : _ ∧ _)
   clear hown kX kT hrow0 G0 y0 y1 y2 y3 y4 y5 y6
   go_loopw [10] (fun j wr => ∃ (q : Nat), q ≤ xs.length ∧ j = .int .i64 q ∧ posDown PP xs xs.length = posDown PP xs q ∧ Below V1.heap.size V1 wr) (fun j _ => (intOf j).toNat)
   case atStart => exact ⟨xs.length, Nat.le_refl _, rfl, rfl, Below.refl _ _⟩
   case round =>
    rename World => U
    obtain ⟨q, hq, rfl, hpd, G2⟩ := hrel
    have Hpd := hide hpd
    clear hpd
    have hV1w : w.heap.size < V1.heap.size := by omega
    have hV1T : V.heap.size < V1.heap.size := by omega
    have kX := H1.out.2.1.below G2 hV1w
    have kT := H2.out.1.below G2 hV1T
    have ownU := Own.below H1.out.1 G2
    have zU := G2.size
    rcases Nat.eq_zero_or_pos q with hq0 | hq0
    ·subst hq0
     go_wp2_with fail
     have HG := hide (⟨G2, G2.size⟩ : Below V1.heap.size V1 U ∧ V1.heap.size ≤ U.heap.size)
     clear kX kT ownU G2 zU
     have hx0 := KeptW.mk'_w (Below.refl U.heap.size U)
     generalize KeptW.mk' (Below.refl U.heap.size U) = x at hx0
     rw [← hx0]
     clear hx0
     refine region_kept (by kernel_rfl) (by kernel_rfl) ?_
     repeat (go_big_quiet_step (fail))
     refine wpQuiet_nil ?_
     rintro _ ⟨x, rfl⟩
     obtain ⟨Z, hZ, GZ⟩ : ∃ Z, Z = x.w ∧ Below V1.heap.size V1 Z := ⟨_, rfl, HG.out.1.trans (x.below.mono HG.out.2)⟩
     rw [← hZ]
     clear hZ x
     have hpos : Hid (posDown PP xs xs.length = 0) := hide (by rw [Hpd.out]; rfl)
     have ownZ := Own.below H1.out.1 GZ
     have zZ := GZ.size
     have hVw : w.heap.size + 1 ≤ V1.heap.size := by omega
     go_wp2_with (first | (at_builtin; refine wpList_append_row rfl (.tmp 61) (.tmp 64) 32 rfl (Z.heap.size) 2 i0 (.int .i64 0) 1 8 Tryz.underlying32 hi hz0 hz1 hz2 rfl (by decide) (.slice (some ⟨Z.heap.size, 0, none⟩) 0 0) (0) ([]) rfl (World.ownsRow_lit (base := Z.heap.size) Z #[] 0 (Nat.le_refl _) (by simp [maxLen]) (by simp)) _ _ _ (icells (xs.drop 0)) rfl (by simp [icells] <;> omega) (Row.tailI (k := 0) (Row.of_own (ownZ.alloc _)) (by intro h; first | rfl | (simp; done))) (icells_oneL _) (by unfold maxLen; omega) (by omega) (by first | omega | (simp; done) | (simp; omega)) ?_; intro v1 Z1 hown1 hgr1 hiff1; obtain ⟨g1, cap1, hv1, hg1, hg1l⟩ := Own.shape hown1 (fun e => absurd (hiff1.1 e).1 (by simp)); subst hv1; have ownZ1 := rowGrown (r := Z.heap.size) (ownZ.alloc (.cells #[] 2)) hgr1 (by omega); have zz1 := hgr1.size; simp at zz1) | (at_builtin; refine wpList_append_row rfl (.tmp 68) (.tmp 70) 32 rfl (w.heap.size + 1) 2 i0 (.int .i64 0) 1 8 Tryz.underlying32 hi hz0 hz1 hz2 rfl (by decide) (.slice (some ⟨g, 0, none⟩) (0) cap) (0) (icells (xs.take 0)) rfl ((Own.cutI ownZ1 (by omega)).alloc _) _ _ _ (icells [(k : Int)]) rfl (by simp [icells] <;> omega) (rowOne _ _ _) (icells_oneL _) (by unfold maxLen; omega) (by omega) (by first | omega | (simp; done) | (simp; omega)) ?_; intro v2 Z2 hown2 hgr2 hiff2; obtain ⟨g2, cap2, hv2, hg2, hg2l⟩ := Own.shape hown2 (fun e => absurd (hiff2.1 e).1 (by simp)); subst hv2; have ownR2 := rowGrown (r := g) (hown1.alloc (.cells #[.int .i64 k] 2)) hgr2 (by omega); have zz2 := hgr2.size; simp at zz2) | (at_builtin; refine wpList_append_row rfl (.tmp 71) (.tmp 72) 32 rfl (w.heap.size + 1) 2 i0 (.int .i64 0) 1 8 Tryz.underlying32 hi hz0 hz1 hz2 rfl (by decide) (.slice (some ⟨g2, 0, none⟩) (0 + 1) cap2) (0 + 1) (icells (xs.take 0) ++ icells [(k : Int)]) rfl (hown2) _ _ _ (icells (xs.drop 0)) rfl (by simp [icells] <;> omega) (Row.of_own ownR2) (icells_oneL _) (by unfold maxLen; omega) (by omega) (by first | omega | (simp; done) | (simp; omega)) ?_; intro v3 Z3 hown3 hgr3 hiff3; obtain ⟨g3, cap3, hv3, hg3, hg3l⟩ := Own.shape hown3 (fun e => absurd (hiff3.1 e).1 (by simp)); subst hv3))
     go_roundw
     case rel =>
      obtain ⟨ho, hn⟩ := own_ins hown3 (ys := L (k + 1)) (by rw [hLk.out, hpos.out]; simp [insAt, icells])
      have kX0 := H1.out.2.1.below GZ H1.out.2.1.lt
      have kX1 := (kX0.alloc (.cells #[] 2)).grown (row := some Z.heap.size) hgr1 (by intro e; injection e; omega)
      have kX2 := (kX1.alloc (.cells #[.int .i64 k] 2)).grown (row := some g) hgr2 (by intro e; injection e; omega)
      have kX3 := kX2.grown (row := some g2) hgr3 (by intro e; injection e; omega)
      have G0 := H1.out.2.2.trans (GZ.mono (by omega))
      have G1 := Below.grown (row := some Z.heap.size) (G0.alloc (by omega) (.cells #[] 2)) hgr1 (by simp; omega) (by intro r e; injection e; omega)
      have G2 := Below.grown (row := some g) (G1.alloc (by omega) (.cells #[.int .i64 k] 2)) hgr2 (by simp; omega) (by intro r e; injection e; omega)
      have G3 := Below.grown (row := some g2) G2 hgr3 (by omega) (by intro r e; injection e; omega)
      exact ⟨k + 1, g3, cap3, by omega, by go_num, by congr 1; try omega, ho, kX3, G3⟩
     case measure => simp [intOf]; omega
    ·obtain ⟨p, rfl⟩ : ∃ p, q = p + 1 := ⟨q - 1, by omega⟩
     have hp : p < xs.length := by omega
     obtain ⟨xv, hxv, yx⟩ := Own.i1 ownU (k := p) hp
     obtain ⟨j, rfl, hjk⟩ := hmem.out xv (List.mem_of_getElem? hxv)
     have hjl : j < ts.length := by omega
     obtain ⟨b2, off2, s2, l2, o2, wt2, on2, v2, t2, hA, _, hj, hb2, x0, x1, x2, x3, x4, x5, x6⟩ := (H2.out.2.below G2).ts_at hjl
     injection hA with hA
     injection hA with hA1 hA2
     subst hA1 hA2
     have hPx : PP (xs.getD p 0) = decide (t < t2) := by
      rw [HPP.out, List.getD_eq_getElem?_getD, hxv]
      simp only [Option.getD_some]
      have e1 := getD_of Ht.out
      have e2 := taskAt_of hj
      simp only [waitP, e1, e2]
     have hstep : posDown PP xs (p + 1) = if PP (xs.getD p 0) then posDown PP xs p else p + 1 := rfl
     rw [hPx] at hstep
     have cX0 := KeptW.cell (W0 := U) (b := w.heap.size) (o := 0) (u := .slice (some ⟨b', off, none⟩) ts.length c0) (kX.cell 0)
     have cT0 := KeptW.cell (W0 := U) (b := V.heap.size) (o := 0) (u := .int .i64 s) (kT.cell 0)
     have cT1 := KeptW.cell (W0 := U) (b := V.heap.size) (o := 1) (u := .int .i64 l) (kT.cell 1)
     have cT2 := KeptW.cell (W0 := U) (b := V.heap.size) (o := 2) (u := .int .i64 o) (kT.cell 2)
     have cT3 := KeptW.cell (W0 := U) (b := V.heap.size) (o := 3) (u := .int .i64 wt) (kT.cell 3)
     have cT4 := KeptW.cell (W0 := U) (b := V.heap.size) (o := 4) (u := .int .i64 on) (kT.cell 4)
     have cT5 := KeptW.cell (W0 := U) (b := V.heap.size) (o := 5) (u := .int .i64 v) (kT.cell 5)
     have cT6 := KeptW.cell (W0 := U) (b := V.heap.size) (o := 6) (u := .int .i64 t) (kT.cell 6)
     have cy := KeptW.cell (W0 := U) (b := g) (o := p) (u := .int .i64 j) yx
     have cz := KeptW.cell (W0 := U) (b := b') (o := off + j * 7 + 6) (u := .int .i64 t2) x6
     have hcl : xs.length ≤ cap := own_cap H1.out.1
     have hcap : p + 1 ≤ cap := by omega
     clear hPx hj hxv yx x0 x1 x2 x3 x4 x5 x6
     go_wp2_with fail
     by_cases hlt2 : t < t2
     ·have hyes : Hid (posDown PP xs (p + 1) = posDown PP xs p) := hide (by rw [hstep]; simp [hlt2])
      have hd : decide (t < t2) = true := by simpa using hlt2
      clear hstep
      have HG := hide (⟨G2, G2.size⟩ : Below V1.heap.size V1 U ∧ V1.heap.size ≤ U.heap.size)
      clear kX kT ownU G2 zU
      have hx0 := KeptW.mk'_w (Below.refl U.heap.size U)
      generalize KeptW.mk' (Below.refl U.heap.size U) = x at hx0
      rw [← hx0]
      clear hx0
      refine region_kept (by kernel_rfl) (by kernel_rfl) ?_
      repeat (go_big_quiet_step (fail))
      refine wpQuiet_nil ?_
      rintro _ ⟨x, rfl⟩
      go_wp2
      go_roundw
      case rel => exact ⟨p, by omega, by go_num, by rw [Hpd.out, hyes.out], HG.out.1.trans (x.below.mono HG.out.2)⟩
      case measure => simp [intOf]
     ·have hno : Hid (posDown PP xs (p + 1) = p + 1) := hide (by rw [hstep]; simp [hlt2])
      have hd : decide (t < t2) = false := by simpa using hlt2
      clear hstep
      have HG := hide (⟨G2, G2.size⟩ : Below V1.heap.size V1 U ∧ V1.heap.size ≤ U.heap.size)
      clear kX kT ownU G2 zU
      have hx0 := KeptW.mk'_w (Below.refl U.heap.size U)
      generalize KeptW.mk' (Below.refl U.heap.size U) = x at hx0
      rw [← hx0]
      clear hx0
      refine region_kept (by kernel_rfl) (by kernel_rfl) ?_
      repeat (go_big_quiet_step (fail))
      refine wpQuiet_nil ?_
      rintro _ ⟨x, rfl⟩
      obtain ⟨Z, hZ, GZ⟩ : ∃ Z, Z = x.w ∧ Below V1.heap.size V1 Z := ⟨_, rfl, HG.out.1.trans (x.below.mono HG.out.2)⟩
      rw [← hZ]
      clear hZ x
      by_cases hcq : cap = p + 1
      ·subst hcq
       have hpos : Hid (posDown PP xs xs.length = (p + 1)) := hide (by rw [Hpd.out, hno.out])
       have ownZ := Own.below H1.out.1 GZ
       have zZ := GZ.size
       have hVw : w.heap.size + 1 ≤ V1.heap.size := by omega
       go_wp2_with (first | (at_builtin; refine wpList_append_row rfl (.tmp 61) (.tmp 64) 32 rfl (Z.heap.size) 2 i0 (.int .i64 0) 1 8 Tryz.underlying32 hi hz0 hz1 hz2 rfl (by decide) (.slice (some ⟨Z.heap.size, 0, none⟩) 0 0) (0) ([]) rfl (World.ownsRow_lit (base := Z.heap.size) Z #[] 0 (Nat.le_refl _) (by simp [maxLen]) (by simp)) _ _ _ (icells (xs.drop (p + 1))) rfl (by simp [icells] <;> omega) (Row.tailI (k := (p + 1)) (Row.of_own (ownZ.alloc _)) (by intro h; first | omega | rfl | (simp; done))) (icells_oneL _) (by unfold maxLen; omega) (by omega) (by first | omega | (simp; done) | (simp; omega)) ?_; intro v1 Z1 hown1 hgr1 hiff1; obtain ⟨g1, cap1, hv1, hg1, hg1l⟩ := Own.shape hown1 (fun e => absurd (hiff1.1 e).1 (by simp)); subst hv1; have ownZ1 := rowGrown (r := Z.heap.size) (ownZ.alloc (.cells #[] 2)) hgr1 (by omega); have zz1 := hgr1.size; simp at zz1) | (at_builtin; refine wpList_append_row rfl (.tmp 68) (.tmp 70) 32 rfl (w.heap.size + 1) 2 i0 (.int .i64 0) 1 8 Tryz.underlying32 hi hz0 hz1 hz2 rfl (by decide) (.slice (some ⟨g, 0, none⟩) ((p + 1)) (p + 1)) ((p + 1)) (icells (xs.take (p + 1))) rfl ((Own.cutI ownZ1 (by omega)).alloc _) _ _ _ (icells [(k : Int)]) rfl (by simp [icells] <;> omega) (rowOne _ _ _) (icells_oneL _) (by unfold maxLen; omega) (by omega) (by first | omega | (simp; done) | (simp; omega)) ?_; intro v2 Z2 hown2 hgr2 hiff2; obtain ⟨g2, cap2, hv2, hg2, hg2l⟩ := Own.shape hown2 (fun e => absurd (hiff2.1 e).1 (by simp)); subst hv2; have ownR2 := rowGrown (r := g) (hown1.alloc (.cells #[.int .i64 k] 2)) hgr2 (by omega); have zz2 := hgr2.size; simp at zz2) | (at_builtin; refine wpList_append_row rfl (.tmp 71) (.tmp 72) 32 rfl (w.heap.size + 1) 2 i0 (.int .i64 0) 1 8 Tryz.underlying32 hi hz0 hz1 hz2 rfl (by decide) (.slice (some ⟨g2, 0, none⟩) ((p + 1) + 1) cap2) ((p + 1) + 1) (icells (xs.take (p + 1)) ++ icells [(k : Int)]) rfl (hown2) _ _ _ (icells (xs.drop (p + 1))) rfl (by simp [icells] <;> omega) (Row.of_own ownR2) (icells_oneL _) (by unfold maxLen; omega) (by omega) (by first | omega | (simp; done) | (simp; omega)) ?_; intro v3 Z3 hown3 hgr3 hiff3; obtain ⟨g3, cap3, hv3, hg3, hg3l⟩ := Own.shape hown3 (fun e => absurd (hiff3.1 e).1 (by simp)); subst hv3))
       go_roundw
       case rel =>
        obtain ⟨ho, hn⟩ := own_ins hown3 (ys := L (k + 1)) (by rw [hLk.out, hpos.out]; simp [insAt, icells])
        have kX0 := H1.out.2.1.below GZ H1.out.2.1.lt
        have kX1 := (kX0.alloc (.cells #[] 2)).grown (row := some Z.heap.size) hgr1 (by intro e; injection e; omega)
        have kX2 := (kX1.alloc (.cells #[.int .i64 k] 2)).grown (row := some g) hgr2 (by intro e; injection e; omega)
        have kX3 := kX2.grown (row := some g2) hgr3 (by intro e; injection e; omega)
        have G0 := H1.out.2.2.trans (GZ.mono (by omega))
        have G1 := Below.grown (row := some Z.heap.size) (G0.alloc (by omega) (.cells #[] 2)) hgr1 (by simp; omega) (by intro r e; injection e; omega)
        have G2 := Below.grown (row := some g) (G1.alloc (by omega) (.cells #[.int .i64 k] 2)) hgr2 (by simp; omega) (by intro r e; injection e; omega)
        have G3 := Below.grown (row := some g2) G2 hgr3 (by omega) (by intro r e; injection e; omega)
        exact ⟨k + 1, g3, cap3, by omega, by go_num, by congr 1; try omega, ho, kX3, G3⟩
       case measure => simp [intOf]; omega
      ·have hpos : Hid (posDown PP xs xs.length = (p + 1)) := hide (by rw [Hpd.out, hno.out])
       have ownZ := Own.below H1.out.1 GZ
       have zZ := GZ.size
       have hVw : w.heap.size + 1 ≤ V1.heap.size := by omega
       go_wp2_with (first | (at_builtin; refine wpList_append_row rfl (.tmp 61) (.tmp 64) 32 rfl (Z.heap.size) 2 i0 (.int .i64 0) 1 8 Tryz.underlying32 hi hz0 hz1 hz2 rfl (by decide) (.slice (some ⟨Z.heap.size, 0, none⟩) 0 0) (0) ([]) rfl (World.ownsRow_lit (base := Z.heap.size) Z #[] 0 (Nat.le_refl _) (by simp [maxLen]) (by simp)) _ _ _ (icells (xs.drop (p + 1))) rfl (by simp [icells] <;> omega) (Row.tailI (k := (p + 1)) (Row.of_own (ownZ.alloc _)) (by intro h; first | rfl | omega | (simp; done))) (icells_oneL _) (by unfold maxLen; omega) (by omega) (by first | omega | (simp; done) | (simp; omega)) ?_; intro v1 Z1 hown1 hgr1 hiff1; obtain ⟨g1, cap1, hv1, hg1, hg1l⟩ := Own.shape hown1 (fun e => absurd (hiff1.1 e).1 (by simp)); subst hv1; have ownZ1 := rowGrown (r := Z.heap.size) (ownZ.alloc (.cells #[] 2)) hgr1 (by omega); have zz1 := hgr1.size; simp at zz1) | (at_builtin; refine wpList_append_row rfl (.tmp 68) (.tmp 70) 32 rfl (w.heap.size + 1) 2 i0 (.int .i64 0) 1 8 Tryz.underlying32 hi hz0 hz1 hz2 rfl (by decide) (.slice (some ⟨g, 0, none⟩) ((p + 1)) cap) ((p + 1)) (icells (xs.take (p + 1))) rfl ((Own.cutI ownZ1 (by omega)).alloc _) _ _ _ (icells [(k : Int)]) rfl (by simp [icells] <;> omega) (rowOne _ _ _) (icells_oneL _) (by unfold maxLen; omega) (by omega) (by first | omega | (simp; done) | (simp; omega)) ?_; intro v2 Z2 hown2 hgr2 hiff2; obtain ⟨g2, cap2, hv2, hg2, hg2l⟩ := Own.shape hown2 (fun e => absurd (hiff2.1 e).1 (by simp)); subst hv2; have ownR2 := rowGrown (r := g) (hown1.alloc (.cells #[.int .i64 k] 2)) hgr2 (by omega); have zz2 := hgr2.size; simp at zz2) | (at_builtin; refine wpList_append_row rfl (.tmp 71) (.tmp 72) 32 rfl (w.heap.size + 1) 2 i0 (.int .i64 0) 1 8 Tryz.underlying32 hi hz0 hz1 hz2 rfl (by decide) (.slice (some ⟨g2, 0, none⟩) ((p + 1) + 1) cap2) ((p + 1) + 1) (icells (xs.take (p + 1)) ++ icells [(k : Int)]) rfl (hown2) _ _ _ (icells (xs.drop (p + 1))) rfl (by simp [icells] <;> omega) (Row.of_own ownR2) (icells_oneL _) (by unfold maxLen; omega) (by omega) (by first | omega | (simp; done) | (simp; omega)) ?_; intro v3 Z3 hown3 hgr3 hiff3; obtain ⟨g3, cap3, hv3, hg3, hg3l⟩ := Own.shape hown3 (fun e => absurd (hiff3.1 e).1 (by simp)); subst hv3))
       go_roundw
       case rel =>
        obtain ⟨ho, hn⟩ := own_ins hown3 (ys := L (k + 1)) (by rw [hLk.out, hpos.out]; simp [insAt, icells])
        have kX0 := H1.out.2.1.below GZ H1.out.2.1.lt
        have kX1 := (kX0.alloc (.cells #[] 2)).grown (row := some Z.heap.size) hgr1 (by intro e; injection e; omega)
        have kX2 := (kX1.alloc (.cells #[.int .i64 k] 2)).grown (row := some g) hgr2 (by intro e; injection e; omega)
        have kX3 := kX2.grown (row := some g2) hgr3 (by intro e; injection e; omega)
        have G0 := H1.out.2.2.trans (GZ.mono (by omega))
        have G1 := Below.grown (row := some Z.heap.size) (G0.alloc (by omega) (.cells #[] 2)) hgr1 (by simp; omega) (by intro r e; injection e; omega)
        have G2 := Below.grown (row := some g) (G1.alloc (by omega) (.cells #[.int .i64 k] 2)) hgr2 (by simp; omega) (by intro r e; injection e; omega)
        have G3 := Below.grown (row := some g2) G2 hgr3 (by omega) (by intro r e; injection e; omega)
        exact ⟨k + 1, g3, cap3, by omega, by go_num, by congr 1; try omega, ho, kX3, G3⟩
       case measure => simp [intOf]; omega
  ·obtain rfl : k = ts.length := by omega
   have qX0 : V.cell? ⟨w.heap.size, 0, none⟩ = some (.slice A0 ts.length c0) := kX.cell 0
   have H1 := hide (⟨hown, G⟩ : _ ∧ _)
   clear hown kX G
   go_wp2
   go_ret
   exact ⟨_, _, rfl, Own.lower H1.out.1 (by omega), H1.out.2⟩
theorem run_copy_whole {P : Program} (w : World) (dT sT ty elem : TypeId) (size n g dCap : Nat) (sp : Option Addr) (sCap : Nat) (cur : Array Value) (t : TypeId) (cs : List Value) (hu : P.underlying dT = some (.slice elem)) (hs : (P.info? elem).map (·.size) = some size)
 (hg : w.heap[g]? = some (.cells cur t (0, 0))) (hn : cs.length = n * size) (hsrc : Row w sp cs) (hfit : cur.size = cs.length) (h1 : ∀ v ∈ cs, v.oneCell' = true) :
 (Builtin.copy_ #[dT, sT] ty #[.slice (some ⟨g, 0, none⟩) n dCap, .slice sp n sCap]).run P w = .ok (goInt n) (w.setRow g cs.toArray) := by
 cases hq : P.info? elem with
 | none => simp [hq] at hs
 | some i =>
  have hi : i.size = size := by simpa [hq] using hs
  have hst := run_storeCells_at P g 0 t cs 0 cur w hg (by omega) h1
  have hrow : (cur.toList.take (0 + 0) ++ cs ++ cur.toList.drop (0 + 0 + cs.length)).toArray = cs.toArray := by
   rw [List.drop_eq_nil_of_le (by rw [Array.length_toList]; omega)]; simp
  rw [hrow] at hst
  rcases Nat.eq_zero_or_pos cs.length with h0 | h0
  ·obtain rfl : cs = [] := List.eq_nil_of_length_eq_zero h0
   have hz : n * size = 0 := by simpa using hn.symm
   have hl : ∀ (x : Addr), (loadCells x 0).run P w = .ok #[] w := fun x => by simpa using run_loadCells_list (P := P) w x [] (by simp)
   cases sp with
   | none => simp [Builtin.copy_, run_underlying hu, Builtin.lenOf, Builtin.firstCells, sizeOf, typeInfo, hq, hst]
   | some a => simp [Builtin.copy_, run_underlying hu, Builtin.lenOf, Builtin.firstCells, sizeOf, typeInfo, hq, hi, hz, hl, hst]
  ·obtain ⟨b, off, rfl, hc⟩ := hsrc h0
   have hl := run_loadCells_list (P := P) w ⟨b, off, none⟩ cs (fun j v hv => by
    rw [show (⟨b, off, none⟩ : Addr).add j = ⟨b, off + j, none⟩ from by unfold Addr.add; split <;> simp_all]
    exact hc j v hv)
   rw [hn] at hl
   simp [Builtin.copy_, run_underlying hu, Builtin.lenOf, Builtin.firstCells, sizeOf, typeInfo, hq, hi, hl, hst]
theorem setRow_grown (w : World) (g : Nat) (cs : Array Value) : w.grownBy (w.setRow g cs) (some g) :=
 ⟨rfl, rfl, rfl, by simp [World.setRow], fun k _ hk => setRow_other w g k cs (fun e => hk (by rw [e]))⟩
/-- The same, as one step of a region that draws its order. -/
theorem step_copy_whole {P : Program} {ops : Array Oper} {o : Oper} {a : Act} {w : World} {K : Act → World → Prop} {Q : Exit → Act → World → Prop} {E : Prop} (hgd : o.guard = none) (d s : Operand) (dT sT : TypeId)
 (ho : o.op = .call { callee := .builtin .copy, args := #[d, s], argTypes := #[dT, sT] }) (elem : TypeId) (size n g dCap : Nat) (sp : Option Addr) (sCap : Nat) (hu : P.underlying dT = some (.slice elem)) (hs : (P.info? elem).map (·.size) = some size)
 (hd : a.eval d = .slice (some ⟨g, 0, none⟩) n dCap) (hx : a.eval s = .slice sp n sCap)
 (cur : Array Value) (t : TypeId) (hg : Blk w g t cur) (cs : List Value) (hn : cs.length = n * size) (hsrc : Row w sp cs) (hfit : cur.size = cs.length) (h1 : ∀ v ∈ cs, v.oneCell' = true)
 (h : ∀ w', Blk w' g t cs.toArray → w.grownBy w' (some g) → K (a.put o.dst (goInt n)) w') :
 if Region.wanted o (yielded ops a.tmps) = true then Oper.wp P o a w K Q else E := by
 have hw : Region.wanted o (yielded ops a.tmps) = true := by simp [Region.wanted, hgd]
 rw [if_pos hw]
 have hrun := run_copy_whole (P := P) w dT sT o.type elem size n g dCap sp sCap cur t cs hu hs hg hn hsrc hfit h1
 unfold Oper.wp
 simp [execOp, ho, resolve, invoke, builtin, hd, hx, hrun, Result.andThen]
 exact h _ (setRow_heap w g cur _ t _ hg) (setRow_grown w g _)
theorem tcells_one (ts : List T7) : ∀ v ∈ tcells ts, v.oneCell' = true := by
 intro v hv
 obtain ⟨t, _, ht⟩ := List.mem_flatMap.1 hv
 simp only [T7.cs, List.mem_cons, List.not_mem_nil, or_false] at ht
 rcases ht with rfl | rfl | rfl | rfl | rfl | rfl | rfl <;> rfl
theorem fcells_one (fs : List F2) : ∀ v ∈ fcells fs, v.oneCell' = true := by
 intro v hv
 obtain ⟨t, _, ht⟩ := List.mem_flatMap.1 hv
 simp only [F2.cs, List.mem_cons, List.not_mem_nil, or_false] at ht
 rcases ht with rfl | rfl <;> rfl
theorem icells_one (ks : List Int) : ∀ v ∈ icells ks, v.oneCell' = true := by
 intro v hv
 obtain ⟨t, _, rfl⟩ := List.mem_map.1 hv
 rfl
theorem l1Copy_any (ks : List Int) (A : Option Addr) (c : Nat) (w : World) (hlen : ks.length ≤ 1048576) (h : Row w A (icells ks)) :
 Calls Tryz.prog 117 #[.slice A ks.length c] w fun r w' => ∃ (g c' : Nat), r = .returned (.slice (some ⟨g, 0, none⟩) ks.length c') ∧ OwnR w' w.heap.size w'.heap.size 2 1 (.slice (some ⟨g, 0, none⟩) ks.length c') ks.length (icells ks) ∧ Below w.heap.size w w' := by
 have H := hide h
 clear h
 obtain ⟨i0, hi, hz0, hz1, hz2⟩ := info_parts infoInt
 go_enter Tryz.func117, Tryz.ntmps117
 go_wp2_with (at_builtin; refine wpList_append_row rfl (.tmp 3) (.tmp 4) 32 rfl w.heap.size 2 i0 (.int .i64 0) 1 8 Tryz.underlying32 hi hz0 hz1 hz2 rfl (by decide) (.slice (some ⟨w.heap.size, 0, none⟩) 0 0) 0 [] rfl (World.ownsRow_lit (base := w.heap.size) w #[] 0 (Nat.le_refl _) (by simp [maxLen]) (by simp)) _ _ _ (icells ks) rfl (by simp [icells]) (H.out.below (Below.alloc (Below.refl _ _) (Nat.le_refl _) _)) (icells_one _) (by unfold maxLen; omega) (by omega) (by simp) ?_; intro v1 Z1 hown1 hgr1 hiff1; obtain ⟨g1, cap1, hv1, hg1, hg1l⟩ := Own.shape hown1 (fun e => absurd (hiff1.1 e).1 (by simp)); subst hv1)
 go_ret
 have ho : Z1.ownsRow w.heap.size 2 1 (.slice (some ⟨g1, 0, none⟩) ks.length cap1) ks.length (icells ks) := by simpa using hown1
 exact ⟨g1, cap1, by simp, OwnR.of ho (Nat.le_refl _), Below.grown (row := some w.heap.size) (by go_grown) hgr1 (by simp) (by intro r e; injection e; omega)⟩
theorem Blk.at_ {w : World} {t : TypeId} {cs : Array Value} {g : Nat} (h : g = w.heap.size) : Blk (w.alloc (.cells cs t)) g t cs := h ▸ Blk.new w t cs
theorem Blk.grownNe {w w' : World} {t : TypeId} {cs : Array Value} {g a0 : Nat} (h : Blk w g t cs) (hg : w.grownBy w' (some a0)) (hne : g ≠ a0) : Blk w' g t cs := h.grown hg (fun e => hne (by injection e))
theorem kpD {w W : World} {u0 u1 u2 u3 u4 : Value} (h : Below w.heap.size w W ∧ W.cell? ⟨w.heap.size, 0, none⟩ = some u0 ∧ W.cell? ⟨w.heap.size, 1, none⟩ = some u1 ∧ W.cell? ⟨w.heap.size, 2, none⟩ = some u2 ∧ W.cell? ⟨w.heap.size, 3, none⟩ = some u3 ∧ W.cell? ⟨w.heap.size, 4, none⟩ = some u4) : Below w.heap.size w W.drew ∧ W.drew.cell? ⟨w.heap.size, 0, none⟩ = some u0 ∧ W.drew.cell? ⟨w.heap.size, 1, none⟩ = some u1 ∧ W.drew.cell? ⟨w.heap.size, 2, none⟩ = some u2 ∧ W.drew.cell? ⟨w.heap.size, 3, none⟩ = some u3 ∧ W.drew.cell? ⟨w.heap.size, 4, none⟩ = some u4 := ⟨h.1.drew, h.2⟩
theorem kpA {w W : World} {u0 u1 u2 u3 u4 : Value} (hx : w.heap.size < W.heap.size) (h : Below w.heap.size w W ∧ W.cell? ⟨w.heap.size, 0, none⟩ = some u0 ∧ W.cell? ⟨w.heap.size, 1, none⟩ = some u1 ∧ W.cell? ⟨w.heap.size, 2, none⟩ = some u2 ∧ W.cell? ⟨w.heap.size, 3, none⟩ = some u3 ∧ W.cell? ⟨w.heap.size, 4, none⟩ = some u4) (o : Obj) : Below w.heap.size w (W.alloc o) ∧ (W.alloc o).cell? ⟨w.heap.size, 0, none⟩ = some u0 ∧ (W.alloc o).cell? ⟨w.heap.size, 1, none⟩ = some u1 ∧ (W.alloc o).cell? ⟨w.heap.size, 2, none⟩ = some u2 ∧ (W.alloc o).cell? ⟨w.heap.size, 3, none⟩ = some u3 ∧ (W.alloc o).cell? ⟨w.heap.size, 4, none⟩ = some u4 := by
 have hz := h.1.size
 refine ⟨h.1.alloc hz o, ?_, ?_, ?_, ?_, ?_⟩
 all_goals rw [World.cell?_alloc_lt W o _ (show w.heap.size < W.heap.size from hx)]
 ·exact h.2.1
 ·exact h.2.2.1
 ·exact h.2.2.2.1
 ·exact h.2.2.2.2.1
 ·exact h.2.2.2.2.2
theorem kpG {w W W' : World} {u0 u1 u2 u3 u4 : Value} {a0 : Nat} (h : Below w.heap.size w W ∧ W.cell? ⟨w.heap.size, 0, none⟩ = some u0 ∧ W.cell? ⟨w.heap.size, 1, none⟩ = some u1 ∧ W.cell? ⟨w.heap.size, 2, none⟩ = some u2 ∧ W.cell? ⟨w.heap.size, 3, none⟩ = some u3 ∧ W.cell? ⟨w.heap.size, 4, none⟩ = some u4) (hg : W.grownBy W' (some a0)) (ha : w.heap.size + 2 ≤ a0) : Below w.heap.size w W' ∧ W'.cell? ⟨w.heap.size, 0, none⟩ = some u0 ∧ W'.cell? ⟨w.heap.size, 1, none⟩ = some u1 ∧ W'.cell? ⟨w.heap.size, 2, none⟩ = some u2 ∧ W'.cell? ⟨w.heap.size, 3, none⟩ = some u3 ∧ W'.cell? ⟨w.heap.size, 4, none⟩ = some u4 := by
 have hne : ∀ o, some (⟨w.heap.size, o, none⟩ : Addr).block ≠ some a0 := fun o e => by injection e with e; simp at e; omega
 exact ⟨Below.grown h.1 hg h.1.size (by intro g e; injection e with e; omega), hg.cell h.2.1 (hne 0), hg.cell h.2.2.1 (hne 1), hg.cell h.2.2.2.1 (hne 2), hg.cell h.2.2.2.2.1 (hne 3), hg.cell h.2.2.2.2.2 (hne 4)⟩
theorem kpB {w W W' : World} {u0 u1 u2 u3 u4 : Value} (hx : w.heap.size < W.heap.size) (h : Below w.heap.size w W ∧ W.cell? ⟨w.heap.size, 0, none⟩ = some u0 ∧ W.cell? ⟨w.heap.size, 1, none⟩ = some u1 ∧ W.cell? ⟨w.heap.size, 2, none⟩ = some u2 ∧ W.cell? ⟨w.heap.size, 3, none⟩ = some u3 ∧ W.cell? ⟨w.heap.size, 4, none⟩ = some u4) (hb : Below W.heap.size W W') : Below w.heap.size w W' ∧ W'.cell? ⟨w.heap.size, 0, none⟩ = some u0 ∧ W'.cell? ⟨w.heap.size, 1, none⟩ = some u1 ∧ W'.cell? ⟨w.heap.size, 2, none⟩ = some u2 ∧ W'.cell? ⟨w.heap.size, 3, none⟩ = some u3 ∧ W'.cell? ⟨w.heap.size, 4, none⟩ = some u4 :=
 ⟨h.1.trans (hb.mono h.1.size), (hb.cell (p := ⟨w.heap.size, 0, none⟩) hx).trans h.2.1, (hb.cell (p := ⟨w.heap.size, 1, none⟩) hx).trans h.2.2.1, (hb.cell (p := ⟨w.heap.size, 2, none⟩) hx).trans h.2.2.2.1, (hb.cell (p := ⟨w.heap.size, 3, none⟩) hx).trans h.2.2.2.2.1, (hb.cell (p := ⟨w.heap.size, 4, none⟩) hx).trans h.2.2.2.2.2⟩
theorem kpS {w W : World} {u0 u1 u2 u3 u4 : Value} {p : Addr} (h : Below w.heap.size w W ∧ W.cell? ⟨w.heap.size, 0, none⟩ = some u0 ∧ W.cell? ⟨w.heap.size, 1, none⟩ = some u1 ∧ W.cell? ⟨w.heap.size, 2, none⟩ = some u2 ∧ W.cell? ⟨w.heap.size, 3, none⟩ = some u3 ∧ W.cell? ⟨w.heap.size, 4, none⟩ = some u4) (hp : p.block = w.heap.size + 1) (v : Value) : Below w.heap.size w (W.setCell p v) ∧ (W.setCell p v).cell? ⟨w.heap.size, 0, none⟩ = some u0 ∧ (W.setCell p v).cell? ⟨w.heap.size, 1, none⟩ = some u1 ∧ (W.setCell p v).cell? ⟨w.heap.size, 2, none⟩ = some u2 ∧ (W.setCell p v).cell? ⟨w.heap.size, 3, none⟩ = some u3 ∧ (W.setCell p v).cell? ⟨w.heap.size, 4, none⟩ = some u4 := by
 refine ⟨h.1.setCell (by omega) v, ?_, ?_, ?_, ?_, ?_⟩
 all_goals rw [World.cell?_setCell_other W p _ v (fun e => by subst e; simp at hp)]
 ·exact h.2.1
 ·exact h.2.2.1
 ·exact h.2.2.2.1
 ·exact h.2.2.2.2.1
 ·exact h.2.2.2.2.2
theorem kpL {w W : World} {u0 u1 u2 u3 u4 : Value} (h : Below w.heap.size w W ∧ W.cell? ⟨w.heap.size, 0, none⟩ = some u0 ∧ W.cell? ⟨w.heap.size, 1, none⟩ = some u1 ∧ W.cell? ⟨w.heap.size, 2, none⟩ = some u2 ∧ W.cell? ⟨w.heap.size, 3, none⟩ = some u3 ∧ W.cell? ⟨w.heap.size, 4, none⟩ = some u4) : Below w.heap.size w W := h.1
theorem kpX {w W : World} {u0 u1 u2 u3 u4 : Value} (h : Below w.heap.size w W ∧ W.cell? ⟨w.heap.size, 0, none⟩ = some u0 ∧ W.cell? ⟨w.heap.size, 1, none⟩ = some u1 ∧ W.cell? ⟨w.heap.size, 2, none⟩ = some u2 ∧ W.cell? ⟨w.heap.size, 3, none⟩ = some u3 ∧ W.cell? ⟨w.heap.size, 4, none⟩ = some u4) : w.heap.size < W.heap.size := World.block_lt_of_cell? W _ h.2.1
set_option maxRecDepth 100000 in
set_option maxHeartbeats 16000000 in
theorem l3Copy_any (ts : List T7) (ks : List Int) (fs : List F2) (A0 A1 A2 : Option Addr) (c0 c1 c2 : Nat) (tn : Int) (st : Bool) (w : World) (l0 : ts.length ≤ 1048576) (l1 : ks.length ≤ 1048576) (l2 : fs.length ≤ 1048576) (h : InPool w ts ks fs A0 A1 A2) :
 Calls Tryz.prog 54 #[.agg #[.slice A0 ts.length c0, .slice A1 ks.length c1, .slice A2 fs.length c2, .int .i64 tn, .bool st]] w (MadePool w ts ks fs tn st) := by
 have H := hide h
 clear h
 obtain ⟨i1, gi, gz0, gz1, gz2⟩ := info_parts infoFut
 obtain ⟨i2, ji, jz0, jz1, jz2⟩ := info_parts infoTask
 go_enter Tryz.func54, Tryz.ntmps54
 go_wp2_with fail
 have G := Below.refl w.heap.size w
 have kX := Blk.new w 35 #[.slice A0 ts.length c0, .slice A1 ks.length c1, .slice A2 fs.length c2, .int .i64 tn, .bool st]
 have hbs := G.size
 replace G := G.alloc (by omega) (.cells #[.slice A0 ts.length c0, .slice A1 ks.length c1, .slice A2 fs.length c2, .int .i64 tn, .bool st] 35)
 have z1 : (w.alloc (.cells #[.slice A0 ts.length c0, .slice A1 ks.length c1, .slice A2 fs.length c2, .int .i64 tn, .bool st] 35)).heap.size = w.heap.size + 1 := by simp
 clear hbs
 generalize w.alloc (.cells #[.slice A0 ts.length c0, .slice A1 ks.length c1, .slice A2 fs.length c2, .int .i64 tn, .bool st] 35) = W1 at kX G z1 ⊢
 have kR : Blk (W1.alloc (.cells #[.slice none 0 0, .slice none 0 0, .slice none 0 0, .int .i64 0, .bool false] 35)) (w.heap.size + 1) 35 #[.slice none 0 0, .slice none 0 0, .slice none 0 0, .int .i64 0, .bool false] := by
  have h := Blk.new W1 35 #[.slice none 0 0, .slice none 0 0, .slice none 0 0, .int .i64 0, .bool false]
  rw [show W1.heap.size = w.heap.size + 1 by omega] at h
  exact h
 replace kX := kX.alloc (.cells #[.slice none 0 0, .slice none 0 0, .slice none 0 0, .int .i64 0, .bool false] 35)
 have hbs := G.size
 replace G := G.alloc (by omega) (.cells #[.slice none 0 0, .slice none 0 0, .slice none 0 0, .int .i64 0, .bool false] 35)
 have z2 : (W1.alloc (.cells #[.slice none 0 0, .slice none 0 0, .slice none 0 0, .int .i64 0, .bool false] 35)).heap.size = W1.heap.size + 1 := by simp
 clear hbs
 generalize W1.alloc (.cells #[.slice none 0 0, .slice none 0 0, .slice none 0 0, .int .i64 0, .bool false] 35) = W2 at kX kR G z2 ⊢
 obtain ⟨tX, qX0, fX0, qX1, fX1, qX2, fX2, qX3, fX3, qX4, fX4⟩ := kX.f5
 obtain ⟨tR, qR0, fR0, qR1, fR1, qR2, fR2, qR3, fR3, qR4, fR4⟩ := kR.f5
 have hS : Below w.heap.size w W2 ∧ W2.cell? ⟨w.heap.size, 0, none⟩ = some (.slice A0 ts.length c0) ∧ W2.cell? ⟨w.heap.size, 1, none⟩ = some (.slice A1 ks.length c1) ∧ W2.cell? ⟨w.heap.size, 2, none⟩ = some (.slice A2 fs.length c2) ∧ W2.cell? ⟨w.heap.size, 3, none⟩ = some (.int .i64 tn) ∧ W2.cell? ⟨w.heap.size, 4, none⟩ = some (.bool st) := ⟨G, qX0, qX1, qX2, qX3, qX4⟩
 have hsz2 : w.heap.size + 2 ≤ W2.heap.size := by omega
 clear z1 z2 G kX
 have tR1 : w.heap.size + 1 < W2.heap.size + 1 := by omega
 have tR2 : w.heap.size + 1 < W2.heap.size + 1 + 1 := by omega
 go_region_held3 (fun w' => Below w.heap.size w w' ∧ w'.cell? ⟨w.heap.size, 0, none⟩ = some (.slice A0 ts.length c0) ∧ w'.cell? ⟨w.heap.size, 1, none⟩ = some (.slice A1 ks.length c1) ∧ w'.cell? ⟨w.heap.size, 2, none⟩ = some (.slice A2 fs.length c2) ∧ w'.cell? ⟨w.heap.size, 3, none⟩ = some (.int .i64 tn) ∧ w'.cell? ⟨w.heap.size, 4, none⟩ = some (.bool st)) (with_reducible (first | exact kpD hS | exact kpA (kpX (by assumption)) (by assumption) _ | exact kpD (kpA (kpX hS) hS _) | exact kpD (kpA (kpX (kpA (kpX hS) hS _)) (kpA (kpX hS) hS _) _) | exact kpA (kpX (kpA (kpX (by assumption)) (by assumption) _)) (kpA (kpX (by assumption)) (by assumption) _) _ | exact kpG (by assumption) (by assumption) (by first | omega | (simp; done) | (simp; omega)) | exact kpB (kpX (by assumption)) (by assumption) (by assumption) | exact kpS (kpS (kpS (kpS (kpS (by assumption) rfl _) rfl _) rfl _) rfl _) rfl _)) (first | (refine step_append_lit rfl (.tmp 3) (.tmp 5) 31 rfl (w.heap.size + 2) 45 i2 (.agg #[.int .i64 0, .int .i64 0, .int .i64 0, .int .i64 0, .int .i64 0, .int .i64 0, .int .i64 0]) 7 56 Tryz.underlying31 ji jz0 jz1 jz2 rfl (by decide) _ rfl (by (repeat (first | (with_reducible exact kR) | (exact Blk.at_ (by simp)) | (with_reducible refine Blk.drew ?_) | (with_reducible refine Blk.alloc ?_ _) | (refine Blk.below ?_ hb9 (by first | omega | (simp; done) | (simp; omega))) | (refine Blk.grownNe ?_ hg6 (by first | omega | (simp; done) | (simp; omega))) | (refine Blk.grownNe ?_ hg13 (by first | omega | (simp; done) | (simp; omega)))))) (by first | omega | (simp; done) | (simp; omega)) _ _ _ (tcells ts) rfl (tcells_length ts) (Row.below H.out.1 (kpL (by assumption))) (tcells_one ts) (by unfold maxLen; omega) (by omega) ?_; intro g6 e6 w6 lit6 own6 hg6; have s6 := hg6.size; (try simp at s6); have hz6 : w.heap.size + 2 ≤ w6.heap.size := (by omega); have kRw : Blk w6 (w.heap.size + 1) 35 #[.slice none 0 0, .slice none 0 0, .slice none 0 0, .int .i64 0, .bool false] := (by (repeat (first | (with_reducible exact kR) | (exact Blk.at_ (by simp)) | (with_reducible refine Blk.drew ?_) | (with_reducible refine Blk.alloc ?_ _) | (refine Blk.below ?_ hb9 (by first | omega | (simp; done) | (simp; omega))) | (refine Blk.grownNe ?_ hg6 (by first | omega | (simp; done) | (simp; omega))) | (refine Blk.grownNe ?_ hg13 (by first | omega | (simp; done) | (simp; omega)))))); have tR0 : w.heap.size + 1 < w6.heap.size := kRw.lt; have tR1 : w.heap.size + 1 < w6.heap.size + 1 := (by omega); have tR2 : w.heap.size + 1 < w6.heap.size + 1 + 1 := (by omega); have rq0 : w6.cell? ⟨w.heap.size + 1, 0, none⟩ = some (.slice none 0 0) := kRw.cell 0; have rf0 : w6.frozen? ⟨w.heap.size + 1, 0, none⟩ = false := kRw.frozen 0; have rq1 : w6.cell? ⟨w.heap.size + 1, 1, none⟩ = some (.slice none 0 0) := kRw.cell 1; have rf1 : w6.frozen? ⟨w.heap.size + 1, 1, none⟩ = false := kRw.frozen 1; have rq2 : w6.cell? ⟨w.heap.size + 1, 2, none⟩ = some (.slice none 0 0) := kRw.cell 2; have rf2 : w6.frozen? ⟨w.heap.size + 1, 2, none⟩ = false := kRw.frozen 2; have rq3 : w6.cell? ⟨w.heap.size + 1, 3, none⟩ = some (.int .i64 0) := kRw.cell 3; have rf3 : w6.frozen? ⟨w.heap.size + 1, 3, none⟩ = false := kRw.frozen 3; have rq4 : w6.cell? ⟨w.heap.size + 1, 4, none⟩ = some (.bool false) := kRw.cell 4; have rf4 : w6.frozen? ⟨w.heap.size + 1, 4, none⟩ = false := kRw.frozen 4) | (refine step_append_lit rfl (.tmp 10) (.tmp 12) 33 rfl (w.heap.size + 2) 103 i1 (.agg #[.bool false, .int .i64 0]) 2 16 Tryz.underlying33 gi gz0 gz1 gz2 rfl (by decide) _ rfl (by (repeat (first | (with_reducible exact kR) | (exact Blk.at_ (by simp)) | (with_reducible refine Blk.drew ?_) | (with_reducible refine Blk.alloc ?_ _) | (refine Blk.below ?_ hb9 (by first | omega | (simp; done) | (simp; omega))) | (refine Blk.grownNe ?_ hg6 (by first | omega | (simp; done) | (simp; omega))) | (refine Blk.grownNe ?_ hg13 (by first | omega | (simp; done) | (simp; omega)))))) (by first | omega | (simp; done) | (simp; omega)) _ _ _ (fcells fs) rfl (fcells_length fs) (Row.below H.out.2.2 (kpL (by assumption))) (fcells_one fs) (by unfold maxLen; omega) (by omega) ?_; intro g13 e13 w13 lit13 own13 hg13; have s13 := hg13.size; (try simp at s13); have hz13 : w.heap.size + 2 ≤ w13.heap.size := (by omega); have kRw : Blk w13 (w.heap.size + 1) 35 #[.slice none 0 0, .slice none 0 0, .slice none 0 0, .int .i64 0, .bool false] := (by (repeat (first | (with_reducible exact kR) | (exact Blk.at_ (by simp)) | (with_reducible refine Blk.drew ?_) | (with_reducible refine Blk.alloc ?_ _) | (refine Blk.below ?_ hb9 (by first | omega | (simp; done) | (simp; omega))) | (refine Blk.grownNe ?_ hg6 (by first | omega | (simp; done) | (simp; omega))) | (refine Blk.grownNe ?_ hg13 (by first | omega | (simp; done) | (simp; omega)))))); have tR0 : w.heap.size + 1 < w13.heap.size := kRw.lt; have tR1 : w.heap.size + 1 < w13.heap.size + 1 := (by omega); have tR2 : w.heap.size + 1 < w13.heap.size + 1 + 1 := (by omega); have rq0 : w13.cell? ⟨w.heap.size + 1, 0, none⟩ = some (.slice none 0 0) := kRw.cell 0; have rf0 : w13.frozen? ⟨w.heap.size + 1, 0, none⟩ = false := kRw.frozen 0; have rq1 : w13.cell? ⟨w.heap.size + 1, 1, none⟩ = some (.slice none 0 0) := kRw.cell 1; have rf1 : w13.frozen? ⟨w.heap.size + 1, 1, none⟩ = false := kRw.frozen 1; have rq2 : w13.cell? ⟨w.heap.size + 1, 2, none⟩ = some (.slice none 0 0) := kRw.cell 2; have rf2 : w13.frozen? ⟨w.heap.size + 1, 2, none⟩ = false := kRw.frozen 2; have rq3 : w13.cell? ⟨w.heap.size + 1, 3, none⟩ = some (.int .i64 0) := kRw.cell 3; have rf3 : w13.frozen? ⟨w.heap.size + 1, 3, none⟩ = false := kRw.frozen 3; have rq4 : w13.cell? ⟨w.heap.size + 1, 4, none⟩ = some (.bool false) := kRw.cell 4; have rf4 : w13.frozen? ⟨w.heap.size + 1, 4, none⟩ = false := kRw.frozen 4) | (go_at_call 117; refine (l1Copy_any ks A1 c1 _ (by omega) (Row.below H.out.2.1 (kpL (by assumption)))).mono ?_; rintro r w9 ⟨g9, e9, rfl, own9, hb9⟩; have own9 := own9.wide (l2 := w.heap.size + 2) (h2 := w9.heap.size) (by first | omega | (simp; done) | (simp; omega)) (Nat.le_refl _); have s9 := hb9.size; (try simp at s9); have hz9 : w.heap.size + 2 ≤ w9.heap.size := (by omega); have kRw : Blk w9 (w.heap.size + 1) 35 #[.slice none 0 0, .slice none 0 0, .slice none 0 0, .int .i64 0, .bool false] := (by (repeat (first | (with_reducible exact kR) | (exact Blk.at_ (by simp)) | (with_reducible refine Blk.drew ?_) | (with_reducible refine Blk.alloc ?_ _) | (refine Blk.below ?_ hb9 (by first | omega | (simp; done) | (simp; omega))) | (refine Blk.grownNe ?_ hg6 (by first | omega | (simp; done) | (simp; omega))) | (refine Blk.grownNe ?_ hg13 (by first | omega | (simp; done) | (simp; omega)))))); have tR0 : w.heap.size + 1 < w9.heap.size := kRw.lt; have tR1 : w.heap.size + 1 < w9.heap.size + 1 := (by omega); have tR2 : w.heap.size + 1 < w9.heap.size + 1 + 1 := (by omega); have rq0 : w9.cell? ⟨w.heap.size + 1, 0, none⟩ = some (.slice none 0 0) := kRw.cell 0; have rf0 : w9.frozen? ⟨w.heap.size + 1, 0, none⟩ = false := kRw.frozen 0; have rq1 : w9.cell? ⟨w.heap.size + 1, 1, none⟩ = some (.slice none 0 0) := kRw.cell 1; have rf1 : w9.frozen? ⟨w.heap.size + 1, 1, none⟩ = false := kRw.frozen 1; have rq2 : w9.cell? ⟨w.heap.size + 1, 2, none⟩ = some (.slice none 0 0) := kRw.cell 2; have rf2 : w9.frozen? ⟨w.heap.size + 1, 2, none⟩ = false := kRw.frozen 2; have rq3 : w9.cell? ⟨w.heap.size + 1, 3, none⟩ = some (.int .i64 0) := kRw.cell 3; have rf3 : w9.frozen? ⟨w.heap.size + 1, 3, none⟩ = false := kRw.frozen 3; have rq4 : w9.cell? ⟨w.heap.size + 1, 4, none⟩ = some (.bool false) := kRw.cell 4; have rf4 : w9.frozen? ⟨w.heap.size + 1, 4, none⟩ = false := kRw.frozen 4))
 all_goals go_wp2_with fail
 all_goals exact bodyPost_ret (v := (.agg #[.slice (some ⟨g6, 0, none⟩) ts.length e6, .slice (some ⟨g9, 0, none⟩) ks.length e9, .slice (some ⟨g13, 0, none⟩) fs.length e13, .int .i64 tn, .bool st])) (by simp [results, Tryz.results54, go_sem, rq0, rq1, rq2, rq3, rq4]) rfl ⟨_, _, _, _, _, _, rfl, ⟨(OwnR.wide (lo := w.heap.size + 2) (hi := w6.heap.size) (by (repeat (with_reducible first | exact own6 | refine OwnR.store ?_ (.inl (by simp)) _ | refine OwnR.drew ?_ | refine OwnR.alloc ?_ _ | refine OwnR.below ?_ hb9 | refine OwnR.grownT ?_ lit6 (by decide) hg6 | refine OwnR.grownT ?_ lit13 (by decide) hg13))) (by omega) (by first | omega | (simp [World.setCell]; done) | (simp [World.setCell]; omega))), (OwnR.wide (lo := w.heap.size + 2) (hi := w9.heap.size) (by (repeat (with_reducible first | exact own9 | refine OwnR.store ?_ (.inl (by simp)) _ | refine OwnR.drew ?_ | refine OwnR.alloc ?_ _ | refine OwnR.below ?_ hb9 | refine OwnR.grownT ?_ lit6 (by decide) hg6 | refine OwnR.grownT ?_ lit13 (by decide) hg13))) (by omega) (by first | omega | (simp [World.setCell]; done) | (simp [World.setCell]; omega))), (OwnR.wide (lo := w.heap.size + 2) (hi := w13.heap.size) (by (repeat (with_reducible first | exact own13 | refine OwnR.store ?_ (.inl (by simp)) _ | refine OwnR.drew ?_ | refine OwnR.alloc ?_ _ | refine OwnR.below ?_ hb9 | refine OwnR.grownT ?_ lit6 (by decide) hg6 | refine OwnR.grownT ?_ lit13 (by decide) hg13))) (by omega) (by first | omega | (simp [World.setCell]; done) | (simp [World.setCell]; omega)))⟩, kpL (by assumption)⟩
end Go.Proofs.YtfkdfkoigojciaaGreatDoor
