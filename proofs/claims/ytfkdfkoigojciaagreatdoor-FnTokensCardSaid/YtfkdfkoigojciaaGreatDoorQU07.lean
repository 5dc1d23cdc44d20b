import Derived.Test.YtfkdfkoigojciaaGreatDoorQU04
import Derived.Test.YtfkdfkoigojciaaGreatDoorQU02
import Derived.Test.YtfkdfkoigojciaaGreatDoorQU03

namespace Go.Proofs.YtfkdfkoigojciaaGreatDoor
open Go.RowKit
set_option linter.unusedVariables false
set_option maxHeartbeats 8000000
variable (a b c d e : Int) (ts : List T7) (ks : List Int) (fs : List F2) (A0 A1 A2 : Option Addr) (c0 c1 c2 : Nat) (tn : Int) (st : Bool)
def soloTo (ts : List T7) (k : Nat) (s o : Int) : Bool := !(s == 2) || (ts.take k).all (fun u => !(u.s == 2 && u.o == o))
def waitsOk (n k : Nat) (wt on : Int) : Bool := !(wt == 1) || (decide (on < n) && !(on == k))
def fitB (a b c d e : Int) (ts : List T7) (tn : Int) (k : Nat) (t : T7) : Bool :=
 taskB a b c d e t.s t.l t.o t.wt t.on t.v t.t && (decide (t.t < tn) && (soloTo ts k t.s t.o && waitsOk ts.length k t.wt t.on))
def allFrom (P : Nat → T7 → Bool) : Nat → List T7 → Bool
 | _, [] => true
 | i, t :: r => P i t && allFrom P (i + 1) r
def tasksB (a b c d e : Int) (ts : List T7) (tn : Int) : Bool := allFrom (fitB a b c d e ts tn) 0 ts
def tokB (k : Int) : Bool := btw k 0 100
def futB (f : F2) : Bool := btw f.v 0 9999 && (f.b || f.v == 0)
def poolB (a b c d e : Int) (ts : List T7) (ks : List Int) (fs : List F2) (tn : Int) : Bool :=
 planB a b c d e && (btw tn 0 1000000 && ((decide ((ts.length : Int) ≤ b) && tasksB a b c d e ts tn) && ((ks.all tokB && decide ((ks.length : Int) = d)) && (fs.all futB && decide ((fs.length : Int) = e)))))
theorem runM_alone (ts : List T7) (w i : Int) (k : Nat) (t : T7) (ht : ts[k]? = some t) (hs : t.s = 2) (ho : t.o = w) : (runM ts w i = i + k) ↔ (ts.take k).all (fun u => !(u.s == 2 && u.o == w)) = true := by
 induction ts generalizing i k with
 | nil => simp at ht
 | cons u r ih =>
  cases k with
  | zero =>
   simp only [List.getElem?_cons_zero, Option.some.injEq] at ht
   subst ht
   simp [runM, hs, ho]
  | succ k =>
   simp only [List.getElem?_cons_succ] at ht
   have := ih (i + 1) k ht
   simp only [runM, List.take_succ_cons, List.all_cons]
   by_cases hu : u.s = 2 ∧ u.o = w
   ·rw [if_pos hu]
    simp [hu.1, hu.2]
    omega
   ·rw [if_neg hu, show i + ((k + 1 : Nat) : Int) = i + 1 + k from by omega, this]
    have : (u.s == 2 && u.o == w) = false := by simpa using hu
    simp [this]
theorem solo_eq (ts : List T7) (k : Nat) (s l o wt on v t : Int) (ht : ts[k]? = some ⟨s, l, o, wt, on, v, t⟩) (hs : s = 2) : (decide (runM ts o 0 = (k : Int))) = soloTo ts k s o := by
 have h := runM_alone ts o 0 k _ ht hs rfl
 rw [Int.zero_add] at h
 rw [Bool.eq_iff_iff]
 simp only [decide_eq_true_eq, soloTo, hs]
 rw [h]; simp
theorem size_any (ts : List T7) (A0 A1 A2 : Option Addr) (c0 n1 c1 n2 c2 : Nat) (tn : Int) (st : Bool) (g : Nat) (w : World) (hg : Blk w g 35 #[.slice A0 ts.length c0, .slice A1 n1 c1, .slice A2 n2 c2, .int .i64 tn, .bool st]) :
 Calls Tryz.prog 146 #[.pointer (some ⟨g, 0, none⟩)] w fun r w' => r = .returned (.int .i64 (ts.length : Nat)) ∧ w = w' := by
 have d0 : w.cell? ⟨g, 0, none⟩ = some (.slice A0 ts.length c0) := hg.cell 0
 go_enter Tryz.func146, Tryz.ntmps146
 go_wp2
 go_ret
 exact ⟨rfl, rfl⟩
theorem futRight_any (s : Bool) (v : Int) (w : World) :
 Calls Tryz.prog 166 #[.agg #[.bool s, .int .i64 v]] w fun r w' => r = .returned (.bool (futB ⟨s, v⟩)) ∧ Below w.heap.size w w' := by
 cases s
 ·by_cases hv : v = 0
  ·subst hv
   go_enter Tryz.func166, Tryz.ntmps166
   go_wp2
   go_ret
   exact ⟨rfl, by go_grown⟩
  ·have e : futB ⟨false, v⟩ = false := by simp [futB, hv]
   rw [e]
   go_enter Tryz.func166, Tryz.ntmps166
   go_wp2
   go_ret
   exact ⟨ret_bool (by simp [hv]), by go_grown⟩
 ·have e : futB ⟨true, v⟩ = btw v 0 9999 := by simp [futB]
  rw [e]
  go_enter Tryz.func166, Tryz.ntmps166
  go_wp2_with (go_at_call 119; refine (between_any _ _ _ _).mono ?_; rintro e w' ⟨rfl, rfl⟩)
  go_ret
  exact ⟨rfl, by go_grown⟩
theorem runsAlone_any (ts : List T7) (A0 A1 A2 : Option Addr) (c0 n1 c1 n2 c2 : Nat) (tn : Int) (st : Bool) (k : Nat) (s l o wt on v t : Int) (ht : ts[k]? = some ⟨s, l, o, wt, on, v, t⟩) (hk : k < ts.length) (g : Nat) (w : World) (hlen : ts.length ≤ 1048576) (hg : Blk w g 35 #[.slice A0 ts.length c0, .slice A1 n1 c1, .slice A2 n2 c2, .int .i64 tn, .bool st]) (h0 : Row w A0 (tcells ts)) :
 Calls Tryz.prog 185 #[.pointer (some ⟨g, 0, none⟩), .int .i64 k] w fun r w' => r = .returned (.bool (soloTo ts k s o)) ∧ Below w.heap.size w w' := by
 have d0 : w.cell? ⟨g, 0, none⟩ = some (.slice A0 ts.length c0) := hg.cell 0
 obtain ⟨b', off, s', l', o', wt', on', v', t', rfl, _, ht', hb, z0, z1, z2, z3, z4, z5, z6⟩ := h0.ts_at hk
 rw [ht] at ht'
 injection ht' with ht'
 injection ht' with u0 u1 u2 u3 u4 u5 u6
 subst u0 u1 u2 u3 u4 u5 u6
 have hgl := hg.lt
 have H := hide (⟨hg, h0, ht⟩ : _ ∧ _ ∧ _)
 clear hg h0 ht
 by_cases hs : s = 2
 ·rw [← solo_eq ts k s l o wt on v t H.out.2.2 hs]
  subst hs
  go_enter Tryz.func185, Tryz.ntmps185
  go_wp2_with fail
  go_call (runBy_any ts (some ⟨b', off, none⟩) A1 A2 c0 n1 c1 n2 c2 tn st o g _ hlen (H.out.1.alloc _) (H.out.2.1.below (by go_grown))) as r w1 ⟨rfl, hb1⟩
  go_wp2_with fail
  go_ret
  exact ⟨ret_bool (by rw [Bool.eq_iff_iff]; simp), Below.trans (by go_grown) (hb1.mono (by go_size))⟩
 ·have e : soloTo ts k s o = true := by simp [soloTo, hs]
  rw [e]
  go_enter Tryz.func185, Tryz.ntmps185
  go_wp2_with fail
  go_ret
  exact ⟨rfl, by go_grown⟩
theorem waits_any (ts : List T7) (A0 A1 A2 : Option Addr) (c0 n1 c1 n2 c2 : Nat) (tn : Int) (st : Bool) (k : Nat) (s l o wt on v t : Int) (ht : ts[k]? = some ⟨s, l, o, wt, on, v, t⟩) (hk : k < ts.length) (g : Nat) (w : World) (hlen : ts.length ≤ 1048576) (hg : Blk w g 35 #[.slice A0 ts.length c0, .slice A1 n1 c1, .slice A2 n2 c2, .int .i64 tn, .bool st]) (h0 : Row w A0 (tcells ts)) :
 Calls Tryz.prog 186 #[.pointer (some ⟨g, 0, none⟩), .int .i64 k] w fun r w' => r = .returned (.bool (waitsOk ts.length k wt on)) ∧ Below w.heap.size w w' := by
 have d0 : w.cell? ⟨g, 0, none⟩ = some (.slice A0 ts.length c0) := hg.cell 0
 obtain ⟨b', off, s', l', o', wt', on', v', t', rfl, _, ht', hb, z0, z1, z2, z3, z4, z5, z6⟩ := h0.ts_at hk
 rw [ht] at ht'
 injection ht' with ht'
 injection ht' with u0 u1 u2 u3 u4 u5 u6
 subst u0 u1 u2 u3 u4 u5 u6
 have hgl := hg.lt
 clear ht h0
 go_enter Tryz.func186, Tryz.ntmps186
 go_wp2_with fail
 have G := Below.refl w.heap.size w
 have kg := hg
 clear hg
 have kT := Blk.new w 45 #[.int .i64 s, .int .i64 l, .int .i64 o, .int .i64 wt, .int .i64 on, .int .i64 v, .int .i64 t]
 replace kg := kg.alloc (.cells #[.int .i64 s, .int .i64 l, .int .i64 o, .int .i64 wt, .int .i64 on, .int .i64 v, .int .i64 t] 45)
 have hbs := G.size
 replace G := G.alloc (by omega) (.cells #[.int .i64 s, .int .i64 l, .int .i64 o, .int .i64 wt, .int .i64 on, .int .i64 v, .int .i64 t] 45)
 have z1 : (w.alloc (.cells #[.int .i64 s, .int .i64 l, .int .i64 o, .int .i64 wt, .int .i64 on, .int .i64 v, .int .i64 t] 45)).heap.size = w.heap.size + 1 := by simp
 clear hbs
 generalize w.alloc (.cells #[.int .i64 s, .int .i64 l, .int .i64 o, .int .i64 wt, .int .i64 on, .int .i64 v, .int .i64 t] 45) = W1 at kg kT G z1 ⊢
 have hq : Hid (∀ x : KeptW W1, Calls Tryz.prog 146 #[.pointer (some ⟨g, 0, none⟩)] x.w fun r w' => r = .returned (.int .i64 (ts.length : Nat)) ∧ x.w = w') := hide (fun x => size_any ts (some ⟨b', off, none⟩) A1 A2 c0 n1 c1 n2 c2 tn st g _ (kg.below x.below kg.lt))
 have cg0 := KeptW.cell (W0 := W1) (b := g) (o := 0) (u := .slice (some ⟨b', off, none⟩) ts.length c0) (kg.cell 0)
 have cg1 := KeptW.cell (W0 := W1) (b := g) (o := 1) (u := .slice A1 n1 c1) (kg.cell 1)
 have cg2 := KeptW.cell (W0 := W1) (b := g) (o := 2) (u := .slice A2 n2 c2) (kg.cell 2)
 have cg3 := KeptW.cell (W0 := W1) (b := g) (o := 3) (u := .int .i64 tn) (kg.cell 3)
 have cg4 := KeptW.cell (W0 := W1) (b := g) (o := 4) (u := .bool st) (kg.cell 4)
 have cT0 := KeptW.cell (W0 := W1) (b := w.heap.size) (o := 0) (u := .int .i64 s) (kT.cell 0)
 have cT1 := KeptW.cell (W0 := W1) (b := w.heap.size) (o := 1) (u := .int .i64 l) (kT.cell 1)
 have cT2 := KeptW.cell (W0 := W1) (b := w.heap.size) (o := 2) (u := .int .i64 o) (kT.cell 2)
 have cT3 := KeptW.cell (W0 := W1) (b := w.heap.size) (o := 3) (u := .int .i64 wt) (kT.cell 3)
 have cT4 := KeptW.cell (W0 := W1) (b := w.heap.size) (o := 4) (u := .int .i64 on) (kT.cell 4)
 have cT5 := KeptW.cell (W0 := W1) (b := w.heap.size) (o := 5) (u := .int .i64 v) (kT.cell 5)
 have cT6 := KeptW.cell (W0 := W1) (b := w.heap.size) (o := 6) (u := .int .i64 t) (kT.cell 6)
 have HG := hide (⟨G, G.size⟩ : Below w.heap.size w W1 ∧ w.heap.size ≤ W1.heap.size)
 clear G kg kT d0 z0 z1 z2 z3 z4 z5 z6
 have hx0 := KeptW.mk'_w (Below.refl W1.heap.size W1)
 generalize KeptW.mk' (Below.refl W1.heap.size W1) = x at hx0
 rw [← hx0]
 clear hx0
 by_cases h1 : wt = 1
 ·by_cases h2 : on < (ts.length : Int)
  ·have h3 : decide (on < (ts.length : Int)) = true := by simpa using h2
   subst h1
   refine region_kept (by kernel_rfl) (by kernel_rfl) ?_
   repeat (go_big_quiet_step (first | (go_at_call 146; with_reducible exact (kept_same (hq.out _)))))
   refine wpQuiet_nil ?_
   rintro _ ⟨x, rfl⟩
   go_wp2
   go_ret
   exact ⟨ret_bool (by simp [waitsOk, h2, bne]), HG.out.1.trans (x.below.mono HG.out.2)⟩
  ·have h3 : decide (on < (ts.length : Int)) = false := by simpa using h2
   subst h1
   refine region_kept (by kernel_rfl) (by kernel_rfl) ?_
   repeat (go_big_quiet_step (first | (go_at_call 146; with_reducible exact (kept_same (hq.out _)))))
   refine wpQuiet_nil ?_
   rintro _ ⟨x, rfl⟩
   go_wp2
   go_ret
   exact ⟨ret_bool (by simp [waitsOk]; intro h; omega), HG.out.1.trans (x.below.mono HG.out.2)⟩
 ·have h3 : (wt == 1) = false := by simpa using h1
  have h4 : (wt != 1) = true := by simpa using h1
  refine region_kept (by kernel_rfl) (by kernel_rfl) ?_
  repeat (go_big_quiet_step (first | (go_at_call 146; with_reducible exact (kept_same (hq.out _)))))
  refine wpQuiet_nil ?_
  rintro _ ⟨x, rfl⟩
  go_wp2
  go_ret
  exact ⟨ret_bool (by simp [waitsOk, h1]), HG.out.1.trans (x.below.mono HG.out.2)⟩
theorem taskFits_any (a b c d e : Int) (ts : List T7) (A0 A1 A2 : Option Addr) (c0 n1 c1 n2 c2 : Nat) (tn : Int) (st : Bool) (k : Nat) (s l o wt on v t : Int) (ht : ts[k]? = some ⟨s, l, o, wt, on, v, t⟩) (hk : k < ts.length) (g : Nat) (w : World) (hlen : ts.length ≤ 1048576) (hg : Blk w g 35 #[.slice A0 ts.length c0, .slice A1 n1 c1, .slice A2 n2 c2, .int .i64 tn, .bool st]) (h0 : Row w A0 (tcells ts)) :
 Calls Tryz.prog 165 #[.pointer (some ⟨g, 0, none⟩), .agg #[.int .i64 a, .int .i64 b, .int .i64 c, .int .i64 d, .int .i64 e], .int .i64 k] w fun r w' => r = .returned (.bool (fitB a b c d e ts tn k ⟨s, l, o, wt, on, v, t⟩)) ∧ Below w.heap.size w w' := by
 have d0 : w.cell? ⟨g, 0, none⟩ = some (.slice A0 ts.length c0) := hg.cell 0
 obtain ⟨b', off, s', l', o', wt', on', v', t', rfl, _, ht', hb, z0, z1, z2, z3, z4, z5, z6⟩ := h0.ts_at hk
 rw [ht] at ht'
 injection ht' with ht'
 injection ht' with u0 u1 u2 u3 u4 u5 u6
 subst u0 u1 u2 u3 u4 u5 u6
 have hgl := hg.lt
 have h0' := hide h0
 have ht2 := hide ht
 clear ht h0
 unfold fitB
 go_enter Tryz.func165, Tryz.ntmps165
 go_wp2_with fail
 have G := Below.refl w.heap.size w
 have kg := hg
 clear hg
 have kP := Blk.new w 28 #[.int .i64 a, .int .i64 b, .int .i64 c, .int .i64 d, .int .i64 e]
 replace kg := kg.alloc (.cells #[.int .i64 a, .int .i64 b, .int .i64 c, .int .i64 d, .int .i64 e] 28)
 have hbs := G.size
 replace G := G.alloc (by omega) (.cells #[.int .i64 a, .int .i64 b, .int .i64 c, .int .i64 d, .int .i64 e] 28)
 have z1 : (w.alloc (.cells #[.int .i64 a, .int .i64 b, .int .i64 c, .int .i64 d, .int .i64 e] 28)).heap.size = w.heap.size + 1 := by simp
 clear hbs
 generalize w.alloc (.cells #[.int .i64 a, .int .i64 b, .int .i64 c, .int .i64 d, .int .i64 e] 28) = W1 at kg kP G z1 ⊢
 have kT : Blk (W1.alloc (.cells #[.int .i64 s, .int .i64 l, .int .i64 o, .int .i64 wt, .int .i64 on, .int .i64 v, .int .i64 t] 45)) (w.heap.size + 1) 45 #[.int .i64 s, .int .i64 l, .int .i64 o, .int .i64 wt, .int .i64 on, .int .i64 v, .int .i64 t] := by
  have h := Blk.new W1 45 #[.int .i64 s, .int .i64 l, .int .i64 o, .int .i64 wt, .int .i64 on, .int .i64 v, .int .i64 t]
  rw [show W1.heap.size = w.heap.size + 1 by omega] at h
  exact h
 replace kg := kg.alloc (.cells #[.int .i64 s, .int .i64 l, .int .i64 o, .int .i64 wt, .int .i64 on, .int .i64 v, .int .i64 t] 45)
 replace kP := kP.alloc (.cells #[.int .i64 s, .int .i64 l, .int .i64 o, .int .i64 wt, .int .i64 on, .int .i64 v, .int .i64 t] 45)
 have hbs := G.size
 replace G := G.alloc (by omega) (.cells #[.int .i64 s, .int .i64 l, .int .i64 o, .int .i64 wt, .int .i64 on, .int .i64 v, .int .i64 t] 45)
 have z2 : (W1.alloc (.cells #[.int .i64 s, .int .i64 l, .int .i64 o, .int .i64 wt, .int .i64 on, .int .i64 v, .int .i64 t] 45)).heap.size = W1.heap.size + 1 := by simp
 clear hbs
 generalize W1.alloc (.cells #[.int .i64 s, .int .i64 l, .int .i64 o, .int .i64 wt, .int .i64 on, .int .i64 v, .int .i64 t] 45) = W2 at kg kP kT G z2 ⊢
 have hq1 : Hid (∀ x : KeptW W2, Calls Tryz.prog 184 #[.agg #[.int .i64 s, .int .i64 l, .int .i64 o, .int .i64 wt, .int .i64 on, .int .i64 v, .int .i64 t], .agg #[.int .i64 a, .int .i64 b, .int .i64 c, .int .i64 d, .int .i64 e]] x.w fun r w' => r = .returned (.bool (taskB a b c d e s l o wt on v t)) ∧ Below x.w.heap.size x.w w') := hide (fun x => tright_any a b c d e s l o wt on v t _)
 have hq2 : Hid (∀ x : KeptW W2, Calls Tryz.prog 185 #[.pointer (some ⟨g, 0, none⟩), .int .i64 k] x.w fun r w' => r = .returned (.bool (soloTo ts k s o)) ∧ Below x.w.heap.size x.w w') := hide (fun x => runsAlone_any ts (some ⟨b', off, none⟩) A1 A2 c0 n1 c1 n2 c2 tn st k s l o wt on v t ht2.out hk g _ hlen (kg.below x.below kg.lt) ((h0'.out.below G).below x.below))
 have hq3 : Hid (∀ x : KeptW W2, Calls Tryz.prog 186 #[.pointer (some ⟨g, 0, none⟩), .int .i64 k] x.w fun r w' => r = .returned (.bool (waitsOk ts.length k wt on)) ∧ Below x.w.heap.size x.w w') := hide (fun x => waits_any ts (some ⟨b', off, none⟩) A1 A2 c0 n1 c1 n2 c2 tn st k s l o wt on v t ht2.out hk g _ hlen (kg.below x.below kg.lt) ((h0'.out.below G).below x.below))
 have cg0 := KeptW.cell (W0 := W2) (b := g) (o := 0) (u := .slice (some ⟨b', off, none⟩) ts.length c0) (kg.cell 0)
 have cg1 := KeptW.cell (W0 := W2) (b := g) (o := 1) (u := .slice A1 n1 c1) (kg.cell 1)
 have cg2 := KeptW.cell (W0 := W2) (b := g) (o := 2) (u := .slice A2 n2 c2) (kg.cell 2)
 have cg3 := KeptW.cell (W0 := W2) (b := g) (o := 3) (u := .int .i64 tn) (kg.cell 3)
 have cg4 := KeptW.cell (W0 := W2) (b := g) (o := 4) (u := .bool st) (kg.cell 4)
 have cP0 := KeptW.cell (W0 := W2) (b := w.heap.size) (o := 0) (u := .int .i64 a) (kP.cell 0)
 have cP1 := KeptW.cell (W0 := W2) (b := w.heap.size) (o := 1) (u := .int .i64 b) (kP.cell 1)
 have cP2 := KeptW.cell (W0 := W2) (b := w.heap.size) (o := 2) (u := .int .i64 c) (kP.cell 2)
 have cP3 := KeptW.cell (W0 := W2) (b := w.heap.size) (o := 3) (u := .int .i64 d) (kP.cell 3)
 have cP4 := KeptW.cell (W0 := W2) (b := w.heap.size) (o := 4) (u := .int .i64 e) (kP.cell 4)
 have cT0 := KeptW.cell (W0 := W2) (b := w.heap.size + 1) (o := 0) (u := .int .i64 s) (kT.cell 0)
 have cT1 := KeptW.cell (W0 := W2) (b := w.heap.size + 1) (o := 1) (u := .int .i64 l) (kT.cell 1)
 have cT2 := KeptW.cell (W0 := W2) (b := w.heap.size + 1) (o := 2) (u := .int .i64 o) (kT.cell 2)
 have cT3 := KeptW.cell (W0 := W2) (b := w.heap.size + 1) (o := 3) (u := .int .i64 wt) (kT.cell 3)
 have cT4 := KeptW.cell (W0 := W2) (b := w.heap.size + 1) (o := 4) (u := .int .i64 on) (kT.cell 4)
 have cT5 := KeptW.cell (W0 := W2) (b := w.heap.size + 1) (o := 5) (u := .int .i64 v) (kT.cell 5)
 have cT6 := KeptW.cell (W0 := W2) (b := w.heap.size + 1) (o := 6) (u := .int .i64 t) (kT.cell 6)
 have HG := hide (⟨G, G.size⟩ : Below w.heap.size w W2 ∧ w.heap.size ≤ W2.heap.size)
 clear G kg kP kT d0 z0 z1 z2 z3 z4 z5 z6
 have hx0 := KeptW.mk'_w (Below.refl W2.heap.size W2)
 generalize KeptW.mk' (Below.refl W2.heap.size W2) = x at hx0
 rw [← hx0]
 clear hx0
 generalize hx0 : taskB a b c d e s l o wt on v t = x0 at hq1
 generalize hx2 : soloTo ts k s o = x2 at hq2
 generalize hx3 : waitsOk ts.length k wt on = x3 at hq3
 have e0 := hide hx0
 have e2 := hide hx2
 have e3 := hide hx3
 clear hx0 hx2 hx3
 cases x0
 ·refine region_kept (by kernel_rfl) (by kernel_rfl) ?_
  repeat (go_big_quiet_step (first | (go_at_call 184; with_reducible exact (kept_call (hq1.out _))) | (go_at_call 185; with_reducible exact (kept_call (hq2.out _))) | (go_at_call 186; with_reducible exact (kept_call (hq3.out _)))))
  refine wpQuiet_nil ?_
  rintro _ ⟨x, rfl⟩
  go_wp2
  go_ret
  exact ⟨ret_bool (by first | rfl | (rw [e0.out, e2.out, e3.out]; simp)), HG.out.1.trans (x.below.mono HG.out.2)⟩
 by_cases h1 : t < tn
 ·have h2 : decide (t < tn) = true := by simpa using h1
  have hh := hide h1
  cases x2
  ·refine region_kept (by kernel_rfl) (by kernel_rfl) ?_
   repeat (go_big_quiet_step (first | (go_at_call 184; with_reducible exact (kept_call (hq1.out _))) | (go_at_call 185; with_reducible exact (kept_call (hq2.out _))) | (go_at_call 186; with_reducible exact (kept_call (hq3.out _)))))
   refine wpQuiet_nil ?_
   rintro _ ⟨x, rfl⟩
   go_wp2
   go_ret
   exact ⟨ret_bool (by first | rfl | (rw [e0.out, e2.out, e3.out]; simp)), HG.out.1.trans (x.below.mono HG.out.2)⟩
  ·refine region_kept (by kernel_rfl) (by kernel_rfl) ?_
   repeat (go_big_quiet_step (first | (go_at_call 184; with_reducible exact (kept_call (hq1.out _))) | (go_at_call 185; with_reducible exact (kept_call (hq2.out _))) | (go_at_call 186; with_reducible exact (kept_call (hq3.out _)))))
   refine wpQuiet_nil ?_
   rintro _ ⟨x, rfl⟩
   go_wp2
   go_ret
   exact ⟨ret_bool (by first | rfl | (rw [e0.out, e2.out, e3.out]; simp [hh.out])), HG.out.1.trans (x.below.mono HG.out.2)⟩
 ·have h2 : decide (t < tn) = false := by simpa using h1
  have hh := hide h1
  refine region_kept (by kernel_rfl) (by kernel_rfl) ?_
  repeat (go_big_quiet_step (first | (go_at_call 184; with_reducible exact (kept_call (hq1.out _))) | (go_at_call 185; with_reducible exact (kept_call (hq2.out _))) | (go_at_call 186; with_reducible exact (kept_call (hq3.out _)))))
  refine wpQuiet_nil ?_
  rintro _ ⟨x, rfl⟩
  go_wp2
  go_ret
  exact ⟨ret_bool (by first | rfl | (rw [e0.out, e2.out, e3.out]; simp [hh.out])), HG.out.1.trans (x.below.mono HG.out.2)⟩
theorem tasksRight_any (a b c d e : Int) (ts : List T7) (A0 A1 A2 : Option Addr) (c0 n1 c1 n2 c2 : Nat) (tn : Int) (st : Bool) (g : Nat) (w : World) (hb30 : b ≤ 30) (hg : Blk w g 35 #[.slice A0 ts.length c0, .slice A1 n1 c1, .slice A2 n2 c2, .int .i64 tn, .bool st]) (h0 : Row w A0 (tcells ts)) :
 Calls Tryz.prog 120 #[.pointer (some ⟨g, 0, none⟩), .agg #[.int .i64 a, .int .i64 b, .int .i64 c, .int .i64 d, .int .i64 e]] w fun r w' => r = .returned (.bool (decide ((ts.length : Int) ≤ b) && tasksB a b c d e ts tn)) ∧ Below w.heap.size w w' := by
 have h0' := hide h0
 have hgl := hg.lt
 clear h0
 unfold tasksB
 go_enter Tryz.func120, Tryz.ntmps120
 go_wp2_with fail
 have G := Below.refl w.heap.size w
 have kg := hg
 clear hg
 have kP := Blk.new w 28 #[.int .i64 a, .int .i64 b, .int .i64 c, .int .i64 d, .int .i64 e]
 replace kg := kg.alloc (.cells #[.int .i64 a, .int .i64 b, .int .i64 c, .int .i64 d, .int .i64 e] 28)
 have hbs := G.size
 replace G := G.alloc (by omega) (.cells #[.int .i64 a, .int .i64 b, .int .i64 c, .int .i64 d, .int .i64 e] 28)
 have z1 : (w.alloc (.cells #[.int .i64 a, .int .i64 b, .int .i64 c, .int .i64 d, .int .i64 e] 28)).heap.size = w.heap.size + 1 := by simp
 clear hbs
 generalize w.alloc (.cells #[.int .i64 a, .int .i64 b, .int .i64 c, .int .i64 d, .int .i64 e] 28) = W1 at kg kP G z1 ⊢
 have hq : Hid (∀ x : KeptW W1, Calls Tryz.prog 146 #[.pointer (some ⟨g, 0, none⟩)] x.w fun r w' => r = .returned (.int .i64 (ts.length : Nat)) ∧ x.w = w') := hide (fun x => size_any ts A0 A1 A2 c0 n1 c1 n2 c2 tn st g _ (kg.below x.below kg.lt))
 have HB := hide (⟨kg, kP⟩ : _ ∧ _)
 have cg0 := KeptW.cell (W0 := W1) (b := g) (o := 0) (u := .slice A0 ts.length c0) (kg.cell 0)
 have cg1 := KeptW.cell (W0 := W1) (b := g) (o := 1) (u := .slice A1 n1 c1) (kg.cell 1)
 have cg2 := KeptW.cell (W0 := W1) (b := g) (o := 2) (u := .slice A2 n2 c2) (kg.cell 2)
 have cg3 := KeptW.cell (W0 := W1) (b := g) (o := 3) (u := .int .i64 tn) (kg.cell 3)
 have cg4 := KeptW.cell (W0 := W1) (b := g) (o := 4) (u := .bool st) (kg.cell 4)
 have cP0 := KeptW.cell (W0 := W1) (b := w.heap.size) (o := 0) (u := .int .i64 a) (kP.cell 0)
 have cP1 := KeptW.cell (W0 := W1) (b := w.heap.size) (o := 1) (u := .int .i64 b) (kP.cell 1)
 have cP2 := KeptW.cell (W0 := W1) (b := w.heap.size) (o := 2) (u := .int .i64 c) (kP.cell 2)
 have cP3 := KeptW.cell (W0 := W1) (b := w.heap.size) (o := 3) (u := .int .i64 d) (kP.cell 3)
 have cP4 := KeptW.cell (W0 := W1) (b := w.heap.size) (o := 4) (u := .int .i64 e) (kP.cell 4)
 have HG := hide (⟨G, G.size⟩ : Below w.heap.size w W1 ∧ w.heap.size ≤ W1.heap.size)
 clear kg kP
 clear G 
 have hx0 := KeptW.mk'_w (Below.refl W1.heap.size W1)
 generalize KeptW.mk' (Below.refl W1.heap.size W1) = x at hx0
 rw [← hx0]
 clear hx0
 refine region_kept (by kernel_rfl) (by kernel_rfl) ?_
 repeat (go_big_quiet_step (first | (go_at_call 146; with_reducible exact (kept_same (hq.out _)))))
 refine wpQuiet_nil ?_
 rintro _ ⟨x, rfl⟩
 by_cases hle : (ts.length : Int) ≤ b
 ·have hgt : ¬ (b < (ts.length : Int)) := by omega
  go_wp2_with fail
  go_call (size_any ts A0 A1 A2 c0 n1 c1 n2 c2 tn st g x.w (HB.out.1.below x.below HB.out.1.lt)) as r w1 ⟨rfl, rfl⟩
  go_wp2_with fail
  go_loopw [13] (fun i wr => ∃ (k : Nat), k ≤ ts.length ∧ i = .int .i64 k ∧ allFrom (fitB a b c d e ts tn) 0 ts = allFrom (fitB a b c d e ts tn) k (ts.drop k) ∧ Below (World.heap W1).size W1 wr) (fun i _ => ts.length - (intOf i).toNat)
  case atStart => exact ⟨0, Nat.zero_le _, rfl, rfl, x.below⟩
  case round =>
   obtain ⟨k, hk, rfl, hm, hbel⟩ := hrel
   have Hm := hide hm
   clear hm
   have kP := HB.out.2.below hbel HB.out.2.lt
   have kg := HB.out.1.below hbel HB.out.1.lt
   obtain ⟨tP, qP0, qP1, qP2, qP3, qP4⟩ := kP.q5
   have hz := hbel.size
   by_cases hlt : k < ts.length
   ·obtain ⟨s, l, o, wt, on, v, t, ht⟩ : ∃ s l o wt on v t : Int, ts[k]? = some ⟨s, l, o, wt, on, v, t⟩ := ⟨_, _, _, _, _, _, _, by rw [List.getElem?_eq_getElem hlt]⟩
    have hd := hide (List.drop_eq_getElem_cons hlt)
    have he : ts[k] = ⟨s, l, o, wt, on, v, t⟩ := by rw [List.getElem?_eq_getElem hlt] at ht; injection ht
    have He := hide he
    have ht2 := hide ht
    clear he ht
    have hcon : Hid (∀ V, Below wr.heap.size wr V → Calls Tryz.prog 165 #[.pointer (some ⟨g, 0, none⟩), .agg #[.int .i64 a, .int .i64 b, .int .i64 c, .int .i64 d, .int .i64 e], .int .i64 k] V fun r w' => r = .returned (.bool (fitB a b c d e ts tn k ⟨s, l, o, wt, on, v, t⟩)) ∧ Below V.heap.size V w') := hide (fun V hV => taskFits_any a b c d e ts A0 A1 A2 c0 n1 c1 n2 c2 tn st k s l o wt on v t ht2.out hlt g V (by omega) (kg.below hV kg.lt) (((h0'.out.below HG.out.1).below hbel).below hV))
    generalize hfit : fitB a b c d e ts tn k ⟨s, l, o, wt, on, v, t⟩ = x1 at hcon
    have Hf := hide hfit
    clear hfit kg kP
    go_wp2_with fail
    go_call (hcon.out _ (Below.refl _ _)) as r w2 ⟨rfl, hb2⟩
    have hz2 := hb2.size
    cases x1
    ·go_wp2
     go_ret
     refine ⟨ret_bool ?_, HG.out.1.trans ((hbel.trans (hb2.mono hz)).mono HG.out.2)⟩
     rw [Hm.out, hd.out, He.out]; simp [allFrom, Hf.out]
    ·go_wp2
     go_roundw
     case rel => exact ⟨k + 1, by omega, by go_num, by rw [Hm.out, hd.out, He.out]; simp [allFrom, Hf.out], hbel.trans (hb2.mono hz)⟩
     case measure => simp [intOf]; omega
   ·go_wp2
    go_ret
    obtain rfl : k = ts.length := by omega
    refine ⟨ret_bool ?_, HG.out.1.trans (hbel.mono HG.out.2)⟩
    rw [Hm.out]; simp [allFrom, hle]
 ·have hgt : b < (ts.length : Int) := by omega
  go_wp2_with fail
  go_ret
  exact ⟨ret_bool (by simp; intro h; omega), HG.out.1.trans (x.below.mono HG.out.2)⟩
theorem tokensRight_any (g : Nat) (w : World) (hlen : ks.length ≤ 30 ∨ ks.length ≤ 1048576) (hg : Blk w g 35 #[.slice A0 ts.length c0, .slice A1 ks.length c1, .slice A2 fs.length c2, .int .i64 tn, .bool st]) (h0 : Row w A1 (icells ks)) :
 Calls Tryz.prog 121 #[.pointer (some ⟨g, 0, none⟩), .agg #[.int .i64 a, .int .i64 b, .int .i64 c, .int .i64 d, .int .i64 e]] w fun r w' => r = .returned (.bool (ks.all tokB && decide ((ks.length : Int) = d))) ∧ Below w.heap.size w w' := by
 have h0' := hide h0
 have hgl := hg.lt
 have hl2 : ks.length ≤ 1048576 := by omega
 clear h0 hlen
 go_enter Tryz.func121, Tryz.ntmps121
 have d1 : w.cell? ⟨g, 1, none⟩ = some (.slice A1 ks.length c1) := hg.cell 1
 go_wp2_with fail
 have G := Below.refl w.heap.size w
 have kg := hg
 clear hg
 have kP := Blk.new w 28 #[.int .i64 a, .int .i64 b, .int .i64 c, .int .i64 d, .int .i64 e]
 replace kg := kg.alloc (.cells #[.int .i64 a, .int .i64 b, .int .i64 c, .int .i64 d, .int .i64 e] 28)
 have hbs := G.size
 replace G := G.alloc (by omega) (.cells #[.int .i64 a, .int .i64 b, .int .i64 c, .int .i64 d, .int .i64 e] 28)
 have z1 : (w.alloc (.cells #[.int .i64 a, .int .i64 b, .int .i64 c, .int .i64 d, .int .i64 e] 28)).heap.size = w.heap.size + 1 := by simp
 clear hbs
 generalize w.alloc (.cells #[.int .i64 a, .int .i64 b, .int .i64 c, .int .i64 d, .int .i64 e] 28) = W1 at kg kP G z1 ⊢
 have HB := hide (⟨kg, kP, G, G.size⟩ : _ ∧ _ ∧ Below w.heap.size w W1 ∧ w.heap.size ≤ W1.heap.size)
 clear kg kP G
 go_loopw [12] (fun i wr => ∃ (k : Nat), k ≤ ks.length ∧ i = .int .i64 k ∧ ks.all tokB = (ks.drop k).all tokB ∧ Below W1.heap.size W1 wr) (fun i _ => ks.length - (intOf i).toNat)
 case atStart => exact ⟨0, Nat.zero_le _, rfl, rfl, Below.refl _ _⟩
 case round =>
  obtain ⟨k, hk, rfl, hm, hbel⟩ := hrel
  have Hm := hide hm
  clear hm
  have hz := hbel.size
  by_cases hlt : k < ks.length
  ·obtain ⟨b', off, v, rfl, hd, _, hb, z0⟩ := ((h0'.out.below HB.out.2.2.1).below hbel).ks_at hlt
   have Hd := hide hd
   clear hd
   go_wp2_with fail
   go_call (between_any v 0 100 wr) as r w2 ⟨rfl, rfl⟩
   generalize hx : btw v 0 100 = x1
   have Hx := hide hx
   clear hx
   cases x1
   ·go_wp2
    go_ret
    refine ⟨ret_bool ?_, HB.out.2.2.1.trans (hbel.mono HB.out.2.2.2)⟩
    rw [Hm.out, Hd.out]; simp [tokB, Hx.out]
   ·go_wp2
    go_roundw
    case rel => exact ⟨k + 1, by omega, by go_num, by rw [Hm.out, Hd.out]; simp [tokB, Hx.out], hbel⟩
    case measure => simp [intOf]; omega
  ·obtain rfl : k = ks.length := by omega
   have kg := HB.out.1.below hbel HB.out.1.lt
   have kP := HB.out.2.1.below hbel HB.out.2.1.lt
   obtain ⟨tg, qg0, qg1, qg2, qg3, qg4⟩ := kg.q5
   obtain ⟨tP, qP0, qP1, qP2, qP3, qP4⟩ := kP.q5
   clear kg kP
   go_wp2_with fail
   go_quiet (fail)
   go_wp2
   go_ret
   refine ⟨ret_bool ?_, HB.out.2.2.1.trans ((below_drewN hbel _).mono HB.out.2.2.2)⟩
   rw [Hm.out, Bool.eq_iff_iff]; simp
theorem futuresRight_any (g : Nat) (w : World) (hlen : fs.length ≤ 30 ∨ fs.length ≤ 1048576) (hg : Blk w g 35 #[.slice A0 ts.length c0, .slice A1 ks.length c1, .slice A2 fs.length c2, .int .i64 tn, .bool st]) (h0 : Row w A2 (fcells fs)) :
 Calls Tryz.prog 122 #[.pointer (some ⟨g, 0, none⟩), .agg #[.int .i64 a, .int .i64 b, .int .i64 c, .int .i64 d, .int .i64 e]] w fun r w' => r = .returned (.bool (fs.all futB && decide ((fs.length : Int) = e))) ∧ Below w.heap.size w w' := by
 have h0' := hide h0
 have hgl := hg.lt
 have hl2 : fs.length ≤ 1048576 := by omega
 clear h0 hlen
 go_enter Tryz.func122, Tryz.ntmps122
 have d2 : w.cell? ⟨g, 2, none⟩ = some (.slice A2 fs.length c2) := hg.cell 2
 go_wp2_with fail
 have G := Below.refl w.heap.size w
 have kg := hg
 clear hg
 have kP := Blk.new w 28 #[.int .i64 a, .int .i64 b, .int .i64 c, .int .i64 d, .int .i64 e]
 replace kg := kg.alloc (.cells #[.int .i64 a, .int .i64 b, .int .i64 c, .int .i64 d, .int .i64 e] 28)
 have hbs := G.size
 replace G := G.alloc (by omega) (.cells #[.int .i64 a, .int .i64 b, .int .i64 c, .int .i64 d, .int .i64 e] 28)
 have z1 : (w.alloc (.cells #[.int .i64 a, .int .i64 b, .int .i64 c, .int .i64 d, .int .i64 e] 28)).heap.size = w.heap.size + 1 := by simp
 clear hbs
 generalize w.alloc (.cells #[.int .i64 a, .int .i64 b, .int .i64 c, .int .i64 d, .int .i64 e] 28) = W1 at kg kP G z1 ⊢
 have HB := hide (⟨kg, kP, G, G.size⟩ : _ ∧ _ ∧ Below w.heap.size w W1 ∧ w.heap.size ≤ W1.heap.size)
 clear kg kP G
 go_loopw [12] (fun i wr => ∃ (k : Nat), k ≤ fs.length ∧ i = .int .i64 k ∧ fs.all futB = (fs.drop k).all futB ∧ Below W1.heap.size W1 wr) (fun i _ => fs.length - (intOf i).toNat)
 case atStart => exact ⟨0, Nat.zero_le _, rfl, rfl, Below.refl _ _⟩
 case round =>
  obtain ⟨k, hk, rfl, hm, hbel⟩ := hrel
  have Hm := hide hm
  clear hm
  have hz := hbel.size
  by_cases hlt : k < fs.length
  ·obtain ⟨b', off, s, v, rfl, hd, _, hb, z0, z1⟩ := ((h0'.out.below HB.out.2.2.1).below hbel).fs_at hlt
   have Hd := hide hd
   clear hd
   go_wp2_with fail
   go_call (futRight_any s v _) as r w2 ⟨rfl, hb2⟩
   have hb3 : Below W1.heap.size W1 w2 := Below.trans (hbel.alloc hz _) (hb2.mono (by have := hz; simp; omega))
   generalize hx : futB ⟨s, v⟩ = x1
   have Hx := hide hx
   clear hx hb2
   cases x1
   ·go_wp2
    go_ret
    refine ⟨ret_bool ?_, HB.out.2.2.1.trans (hb3.mono HB.out.2.2.2)⟩
    rw [Hm.out, Hd.out]; simp [Hx.out]
   ·go_wp2
    go_roundw
    case rel => exact ⟨k + 1, by omega, by go_num, by rw [Hm.out, Hd.out]; simp [Hx.out], hb3⟩
    case measure => simp [intOf]; omega
  ·obtain rfl : k = fs.length := by omega
   have kg := HB.out.1.below hbel HB.out.1.lt
   have kP := HB.out.2.1.below hbel HB.out.2.1.lt
   obtain ⟨tg, qg0, qg1, qg2, qg3, qg4⟩ := kg.q5
   obtain ⟨tP, qP0, qP1, qP2, qP3, qP4⟩ := kP.q5
   clear kg kP
   go_wp2_with fail
   go_quiet (fail)
   go_wp2
   go_ret
   refine ⟨ret_bool ?_, HB.out.2.2.1.trans ((below_drewN hbel _).mono HB.out.2.2.2)⟩
   rw [Hm.out, Bool.eq_iff_iff]; simp
theorem pright_any (g : Nat) (w : World) (hk : ks.length ≤ 1048576) (hf : fs.length ≤ 1048576) (hg : Blk w g 35 #[.slice A0 ts.length c0, .slice A1 ks.length c1, .slice A2 fs.length c2, .int .i64 tn, .bool st]) (h : InPool w ts ks fs A0 A1 A2) :
 Calls Tryz.prog 58 #[.pointer (some ⟨g, 0, none⟩), .agg #[.int .i64 a, .int .i64 b, .int .i64 c, .int .i64 d, .int .i64 e]] w fun r w' => r = .returned (.bool (poolB a b c d e ts ks fs tn)) ∧ Below w.heap.size w w' := by
 have H := hide h
 have hgl := hg.lt
 clear h
 have hb30 : Hid (planB a b c d e = true → b ≤ 30) := hide (fun h => by have := planB_all h; omega)
 have q0 : Hid (∀ V, Calls Tryz.prog 83 #[.agg #[.int .i64 a, .int .i64 b, .int .i64 c, .int .i64 d, .int .i64 e]] V fun r w' => r = .returned (.bool (planB a b c d e)) ∧ Below V.heap.size V w') := hide (fun V => right_any a b c d e V)
 have q1 : Hid (∀ V, Calls Tryz.prog 119 #[.int .i64 tn, .int .i64 0, .int .i64 1000000] V fun r w' => r = .returned (.bool (btw tn 0 1000000)) ∧ V = w') := hide (fun V => between_any tn 0 1000000 V)
 have q2 : Hid (planB a b c d e = true → ∀ V, Below w.heap.size w V → Calls Tryz.prog 120 #[.pointer (some ⟨g, 0, none⟩), .agg #[.int .i64 a, .int .i64 b, .int .i64 c, .int .i64 d, .int .i64 e]] V fun r w' => r = .returned (.bool (decide ((ts.length : Int) ≤ b) && tasksB a b c d e ts tn)) ∧ Below V.heap.size V w') := hide (fun hp V hV => tasksRight_any a b c d e ts A0 A1 A2 c0 ks.length c1 fs.length c2 tn st g V (hb30.out hp) (hg.below hV hg.lt) (H.out.1.below hV))
 have q3 : Hid (∀ V, Below w.heap.size w V → Calls Tryz.prog 121 #[.pointer (some ⟨g, 0, none⟩), .agg #[.int .i64 a, .int .i64 b, .int .i64 c, .int .i64 d, .int .i64 e]] V fun r w' => r = .returned (.bool (ks.all tokB && decide ((ks.length : Int) = d))) ∧ Below V.heap.size V w') := hide (fun V hV => tokensRight_any a b c d e ts ks fs A0 A1 A2 c0 c1 c2 tn st g V (.inr hk) (hg.below hV hg.lt) (H.out.2.1.below hV))
 have q4 : Hid (∀ V, Below w.heap.size w V → Calls Tryz.prog 122 #[.pointer (some ⟨g, 0, none⟩), .agg #[.int .i64 a, .int .i64 b, .int .i64 c, .int .i64 d, .int .i64 e]] V fun r w' => r = .returned (.bool (fs.all futB && decide ((fs.length : Int) = e))) ∧ Below V.heap.size V w') := hide (fun V hV => futuresRight_any a b c d e ts ks fs A0 A1 A2 c0 c1 c2 tn st g V (.inr hf) (hg.below hV hg.lt) (H.out.2.2.below hV))
 unfold poolB
 clear hb30
 generalize planB a b c d e = x0 at q0 q2 ⊢
 generalize btw tn 0 1000000 = x1 at q1 ⊢
 generalize (decide ((ts.length : Int) ≤ b) && tasksB a b c d e ts tn) = x2 at q2 ⊢
 generalize (ks.all tokB && decide ((ks.length : Int) = d)) = x3 at q3 ⊢
 generalize (fs.all futB && decide ((fs.length : Int) = e)) = x4 at q4 ⊢
 have d3 : w.cell? ⟨g, 3, none⟩ = some (.int .i64 tn) := hg.cell 3
 go_enter Tryz.func58, Tryz.ntmps58
 go_wp2_with fail
 have G := Below.refl w.heap.size w
 have kg := hg
 have kP := Blk.new w 28 #[.int .i64 a, .int .i64 b, .int .i64 c, .int .i64 d, .int .i64 e]
 replace kg := kg.alloc (.cells #[.int .i64 a, .int .i64 b, .int .i64 c, .int .i64 d, .int .i64 e] 28)
 have hbs := G.size
 replace G := G.alloc (by omega) (.cells #[.int .i64 a, .int .i64 b, .int .i64 c, .int .i64 d, .int .i64 e] 28)
 have z1 : (w.alloc (.cells #[.int .i64 a, .int .i64 b, .int .i64 c, .int .i64 d, .int .i64 e] 28)).heap.size = w.heap.size + 1 := by simp
 clear hbs
 generalize w.alloc (.cells #[.int .i64 a, .int .i64 b, .int .i64 c, .int .i64 d, .int .i64 e] 28) = W1 at kg kP G z1 ⊢
 go_call (q0.out _) as r W2 ⟨rfl, g1⟩
 have hbs := G.size
 replace kg := kg.below g1 kg.lt
 replace kP := kP.below g1 kP.lt
 replace G := G.trans (g1.mono (by omega))
 have z2 := g1.size
 clear g1 hbs
 cases x0
 ·obtain ⟨tg, qg0, qg1, qg2, qg3, qg4⟩ := kg.q5
  obtain ⟨tP, qP0, qP1, qP2, qP3, qP4⟩ := kP.q5
  go_wp2_with fail
  go_ret
  exact ⟨rfl, G⟩
 obtain ⟨tg, qg0, qg1, qg2, qg3, qg4⟩ := kg.q5
 obtain ⟨tP, qP0, qP1, qP2, qP3, qP4⟩ := kP.q5
 go_wp2_with fail
 go_call (q1.out _) as r W3 ⟨rfl, rfl⟩
 cases x1
 ·go_wp2_with fail
  go_ret
  exact ⟨rfl, G⟩
 go_wp2_with fail
 go_call (q2.out (by simp) _ G) as r W3 ⟨rfl, g1⟩
 clear tg qg0 qg1 qg2 qg3 qg4 tP qP0 qP1 qP2 qP3 qP4
 have hbs := G.size
 replace kg := kg.below g1 kg.lt
 replace kP := kP.below g1 kP.lt
 replace G := G.trans (g1.mono (by omega))
 have z3 := g1.size
 clear g1 hbs
 cases x2
 ·obtain ⟨tg, qg0, qg1, qg2, qg3, qg4⟩ := kg.q5
  obtain ⟨tP, qP0, qP1, qP2, qP3, qP4⟩ := kP.q5
  go_wp2_with fail
  go_ret
  exact ⟨rfl, G⟩
 obtain ⟨tg, qg0, qg1, qg2, qg3, qg4⟩ := kg.q5
 obtain ⟨tP, qP0, qP1, qP2, qP3, qP4⟩ := kP.q5
 go_wp2_with fail
 go_call (q3.out _ G) as r W4 ⟨rfl, g1⟩
 clear tg qg0 qg1 qg2 qg3 qg4 tP qP0 qP1 qP2 qP3 qP4
 have hbs := G.size
 replace kg := kg.below g1 kg.lt
 replace kP := kP.below g1 kP.lt
 replace G := G.trans (g1.mono (by omega))
 have z4 := g1.size
 clear g1 hbs
 cases x3
 ·obtain ⟨tg, qg0, qg1, qg2, qg3, qg4⟩ := kg.q5
  obtain ⟨tP, qP0, qP1, qP2, qP3, qP4⟩ := kP.q5
  go_wp2_with fail
  go_ret
  exact ⟨rfl, G⟩
 obtain ⟨tg, qg0, qg1, qg2, qg3, qg4⟩ := kg.q5
 obtain ⟨tP, qP0, qP1, qP2, qP3, qP4⟩ := kP.q5
 go_wp2_with fail
 go_call (q4.out _ G) as r W5 ⟨rfl, g1⟩
 clear tg qg0 qg1 qg2 qg3 qg4 tP qP0 qP1 qP2 qP3 qP4
 have hbs := G.size
 replace kg := kg.below g1 kg.lt
 replace kP := kP.below g1 kP.lt
 replace G := G.trans (g1.mono (by omega))
 have z5 := g1.size
 clear g1 hbs
 obtain ⟨tg, qg0, qg1, qg2, qg3, qg4⟩ := kg.q5
 obtain ⟨tP, qP0, qP1, qP2, qP3, qP4⟩ := kP.q5
 go_wp2_with fail
 go_ret
 exact ⟨rfl, G⟩
theorem gPoolOk_any (w : World) (hk : ks.length ≤ 1048576) (hf : fs.length ≤ 1048576) (h : InPool w ts ks fs A0 A1 A2) :
 Calls Tryz.prog 19 #[qF a b c d e, qP ts ks fs A0 A1 A2 c0 c1 c2 tn st] w fun r w' => r = .returned (.bool (poolB a b c d e ts ks fs tn)) ∧ Below w.heap.size w w' := by
 unfold qF qP
 have H := hide h
 clear h
 go_enter Tryz.func19, Tryz.ntmps19
 go_wp2_with fail
 have G := Below.refl w.heap.size w
 have kP := Blk.new w 28 #[.int .i64 a, .int .i64 b, .int .i64 c, .int .i64 d, .int .i64 e]
 have hbs := G.size
 replace G := G.alloc (by omega) (.cells #[.int .i64 a, .int .i64 b, .int .i64 c, .int .i64 d, .int .i64 e] 28)
 have z1 : (w.alloc (.cells #[.int .i64 a, .int .i64 b, .int .i64 c, .int .i64 d, .int .i64 e] 28)).heap.size = w.heap.size + 1 := by simp
 clear hbs
 generalize w.alloc (.cells #[.int .i64 a, .int .i64 b, .int .i64 c, .int .i64 d, .int .i64 e] 28) = W1 at kP G z1 ⊢
 have kX : Blk (W1.alloc (.cells #[.slice A0 ts.length c0, .slice A1 ks.length c1, .slice A2 fs.length c2, .int .i64 tn, .bool st] 35)) (w.heap.size + 1) 35 #[.slice A0 ts.length c0, .slice A1 ks.length c1, .slice A2 fs.length c2, .int .i64 tn, .bool st] := by
  have h := Blk.new W1 35 #[.slice A0 ts.length c0, .slice A1 ks.length c1, .slice A2 fs.length c2, .int .i64 tn, .bool st]
  rw [show W1.heap.size = w.heap.size + 1 by omega] at h
  exact h
 replace kP := kP.alloc (.cells #[.slice A0 ts.length c0, .slice A1 ks.length c1, .slice A2 fs.length c2, .int .i64 tn, .bool st] 35)
 have hbs := G.size
 replace G := G.alloc (by omega) (.cells #[.slice A0 ts.length c0, .slice A1 ks.length c1, .slice A2 fs.length c2, .int .i64 tn, .bool st] 35)
 have z2 : (W1.alloc (.cells #[.slice A0 ts.length c0, .slice A1 ks.length c1, .slice A2 fs.length c2, .int .i64 tn, .bool st] 35)).heap.size = W1.heap.size + 1 := by simp
 clear hbs
 generalize W1.alloc (.cells #[.slice A0 ts.length c0, .slice A1 ks.length c1, .slice A2 fs.length c2, .int .i64 tn, .bool st] 35) = W2 at kP kX G z2 ⊢
 go_call (pright_any a b c d e ts ks fs A0 A1 A2 c0 c1 c2 tn st (w.heap.size + 1) _ hk hf kX (H.out.below G)) as r W3 ⟨rfl, g1⟩
 have hbs := G.size
 replace kP := kP.below g1 kP.lt
 replace kX := kX.below g1 kX.lt
 replace G := G.trans (g1.mono (by omega))
 have z3 := g1.size
 clear g1 hbs
 obtain ⟨tP, qP0, fP0, qP1, fP1, qP2, fP2, qP3, fP3, qP4, fP4⟩ := kP.f5
 obtain ⟨tX, qX0, fX0, qX1, fX1, qX2, fX2, qX3, fX3, qX4, fX4⟩ := kX.f5
 go_wp2_with fail
 go_ret
 exact ⟨rfl, G⟩
end Go.Proofs.YtfkdfkoigojciaaGreatDoor
