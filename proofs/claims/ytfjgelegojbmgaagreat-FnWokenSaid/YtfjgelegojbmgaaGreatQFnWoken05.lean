/- Heaps of places, as container/heap has them: what a change of two places, a step up and a step down keep; and that the model's lines are sorted. No condition. -/
import Derived.Test.YtfjgelegojbmgaaGreatQFnWoken04
import Derived.RangeFuncNested
import Derived.RangeFuncBound
import Derived.RangeFuncCalls
import Derived.RangeFuncLeaves
import Derived.OwnWalkIn
import Derived.TacticsInMore
import Derived.LoopNIn
import Derived.LoopIn
import Derived.Test.YtfjgelegojbmgaaGreatQB05
import Derived.Test.YtfjgelegojbmgaaGreatQB06
import Derived.Test.YtfjgelegojbmgaaGreatQB04

namespace Go.Proofs.YtfjgelegojbmgaaGreat
open Go.RowKit
set_option linter.unusedVariables false
theorem woken_told (a b c d e : Int) (ts : List T7) (ks : List Int) (fs : List F2) (tn : Int) (st : Bool) (id : Int) (v0 : Int) (hl : ts.length + ks.length + fs.length ≤ 1048576) :
 ∃ (us : List T7) (ks2 : List Int) (fs2 : List F2) (tn2 : Int) (st2 z : Bool), us.length + ks2.length + fs2.length ≤ 1048576 ∧
 ((z = true → ∃ (k : Nat) (x : T7), id = k ∧ ts[k]? = some x ∧ x.s = 3 ∧ us = ts.set k (wakeT x tn v0) ∧ ks2 = ks ∧ fs2 = fs ∧ tn2 = tn + 1 ∧ st2 = st ∧ poolB a b c d e ts ks fs tn = true ∧ poolB a b c d e us ks2 fs2 tn2 = true) ∧ (z = false → poolB a b c d e ts ks fs tn = true → us = ts ∧ ks2 = ks ∧ fs2 = fs ∧ tn2 = tn ∧ st2 = st)) ∧
 Hid (∀ (A0 A1 A2 : Option Addr) (c0 c1 c2 : Nat) (w : World), InPool w ts ks fs A0 A1 A2 → Calls Tryz.prog 10 #[.agg #[.int .i64 a, .int .i64 b, .int .i64 c, .int .i64 d, .int .i64 e], .agg #[.slice A0 ts.length c0, .slice A1 ks.length c1, .slice A2 fs.length c2, .int .i64 tn, .bool st], .int .i64 id, .int .i64 v0] w (GaveP us ks2 fs2 tn2 st2 z w)) ∧
 Hid (∀ (A0 A1 A2 : Option Addr) (c0 c1 c2 : Nat) (w : World), InPool w ts ks fs A0 A1 A2 → Calls Tryz.prog 9 #[.agg #[.int .i64 a, .int .i64 b, .int .i64 c, .int .i64 d, .int .i64 e], .agg #[.slice A0 ts.length c0, .slice A1 ks.length c1, .slice A2 fs.length c2, .int .i64 tn, .bool st], .int .i64 id, .int .i64 v0] w (GaveP us ks2 fs2 tn2 st2 z w)) := by
 have ht : ts.length ≤ 1048576 := by omega
 have hk : ks.length ≤ 1048576 := by omega
 have hf : fs.length ≤ 1048576 := by omega
 cases hp : poolB a b c d e ts ks fs tn
 ·exact ⟨[], [], [], 0, false, false, by simp, ⟨(fun h => by cases h), (fun _ h => by cases h)⟩, hide (fun A0 A1 A2 c0 c1 c2 w h => sWoken_bad a b c d e ts ks fs A0 A1 A2 c0 c1 c2 tn st id v0 w ht hk hf h hp), hide (fun A0 A1 A2 c0 c1 c2 w h => gWoken_bad a b c d e ts ks fs A0 A1 A2 c0 c1 c2 tn st id v0 w ht hk hf h hp)⟩
 ·cases hc : canB ts id v0 tn
  ·refine ⟨ts, ks, fs, tn, st, false, hl, ⟨(fun h => by cases h), fun _ _ => ⟨rfl, rfl, rfl, rfl, rfl⟩⟩, ?_, hide (fun A0 A1 A2 c0 c1 c2 w h => gWoken_no a b c d e ts ks fs A0 A1 A2 c0 c1 c2 tn st id v0 w ht hk hf h hp hc)⟩
   cases hb : btw id 0 ((ts.length : Int) - 1)
   ·exact hide (fun A0 A1 A2 c0 c1 c2 w h => sWoken_no1 a b c d e ts ks fs A0 A1 A2 c0 c1 c2 tn st id v0 w ht hk hf h hp hb)
   ·obtain ⟨k, rfl⟩ : ∃ k : Nat, id = k := ⟨id.toNat, by simp [btw] at hb; omega⟩
    have hkl : k < ts.length := by simp [btw] at hb; omega
    obtain ⟨⟨s, l, o1, wt, on, v, t⟩, hts⟩ : ∃ x, ts[k]? = some x := ⟨_, List.getElem?_eq_getElem hkl⟩
    by_cases hs : s = 3
    ·cases hv : btw v0 0 9999
     ·exact hide (fun A0 A1 A2 c0 c1 c2 w h => sWoken_no3 a b c d e ts ks fs A0 A1 A2 c0 c1 c2 tn st k v0 w ht hk hf h hp k s l o1 wt on v t rfl hts hb hs hv)
     ·have hz : poolB a b c d e (ts.set k (wakeT ⟨s, l, o1, wt, on, v, t⟩ tn v0)) ks fs (tn + 1) = false := by
       refine turn_over ?_
       have h1 := hc
       rw [canB, isInB_of hts, hv] at h1
       simp [hs] at h1
       omega
      exact hide (fun A0 A1 A2 c0 c1 c2 w h => sWoken_full a b c d e ts ks fs A0 A1 A2 c0 c1 c2 tn st k v0 w ht hk hf h hp k s l o1 wt on v t rfl hts hb hs hv hz)
    ·exact hide (fun A0 A1 A2 c0 c1 c2 w h => sWoken_no2 a b c d e ts ks fs A0 A1 A2 c0 c1 c2 tn st k v0 w ht hk hf h hp k s l o1 wt on v t rfl hts hb hs)
  ·have hc2 := hc
   simp only [canB, Bool.and_eq_true, decide_eq_true_eq] at hc2
   obtain ⟨k, ⟨s, l, o1, wt, on, v, t⟩, rfl, hkl, hts, hs⟩ := isInB_nat hc2.1
   have hb : btw (k : Int) 0 ((ts.length : Int) - 1) = true := by simp [btw]; omega
   have hz := wake_right (v := v0) hp hts hs hc2.2.1 hc2.2.2
   exact ⟨ts.set k (wakeT ⟨s, l, o1, wt, on, v, t⟩ tn v0), ks, fs, tn + 1, st, true, by simpa using hl, ⟨fun _ => ⟨k, ⟨s, l, o1, wt, on, v, t⟩, rfl, hts, hs, rfl, rfl, rfl, rfl, rfl, rfl, hz⟩, (fun h => by cases h)⟩, hide (fun A0 A1 A2 c0 c1 c2 w h => sWoken_yes a b c d e ts ks fs A0 A1 A2 c0 c1 c2 tn st k v0 w ht hk hf h hp k s l o1 wt on v t rfl hts hb hs hc2.2.1 hz), hide (fun A0 A1 A2 c0 c1 c2 w h => gWoken_yes a b c d e ts ks fs A0 A1 A2 c0 c1 c2 tn st k v0 w ht hk hf h hp k s l o1 wt on v t rfl hts hc)⟩
/-- All blocks from B on lie as they lay. -/
structure Above (B : Nat) (W W' : World) : Prop where
 size : W.heap.size ≤ W'.heap.size
 same : ∀ k, B ≤ k → k < W.heap.size → W'.heap[k]? = W.heap[k]?
theorem Above.refl (B : Nat) (W : World) : Above B W W := ⟨Nat.le_refl _, fun _ _ _ => rfl⟩
theorem Above.trans {B : Nat} {A C D : World} (h : Above B A C) (k : Above B C D) : Above B A D :=
 ⟨Nat.le_trans h.size k.size, fun i hB hi => (k.same i hB (Nat.lt_of_lt_of_le hi h.size)).trans (h.same i hB hi)⟩
theorem Above.mono {B B' : Nat} {A C : World} (h : Above B A C) (hB : B ≤ B') : Above B' A C := ⟨h.size, fun k hk hl => h.same k (Nat.le_trans hB hk) hl⟩
theorem Above.some {B k : Nat} {o : Obj} {A C : World} (h : Above B A C) (hB : B ≤ k) (ho : A.heap[k]? = some o) : C.heap[k]? = some o :=
 (h.same k hB (Array.getElem?_eq_some_iff.1 ho).1).trans ho
/-- A walk by things whose blocks all lie below B. -/
theorem Sep.above {S : List Nat} {w W : World} {rs : List Res} {B : Nat} (h : Sep S w W rs) (hS : ∀ g ∈ S, g < B) : Above B w W :=
 ⟨h.size, fun k hk hl => h.block k hl (fun hm => by have := hS k hm; omega)⟩
/-- What speaks of the blocks below B alone. -/
def Abides {β : Type} (B : Nat) (J : β → World → Prop) : Prop := ∀ s A C, J s A → Below B A C → J s C
/-- The iterator g, at what it has captured: it hands out xs, one after the other, till a round says no. -/
def SeqS {α : Type} (F : Fence) (n : Nat) (P : Program) (g : Nat) (lb : Array Value) (enc : α → Array Value) (xs : List α) (w : World) : Prop :=
 ∀ (l : Nat) (J Jx : List α → World → Prop) (W : World), Below w.heap.size w W → Abides W.heap.size J → Abides W.heap.size Jx →
  (∀ pre x W1, J pre W1 → pre ++ [x] <+: xs → YieldAt F (n - 1) P l (enc x) W1 fun e W' =>
   (e = .returned (.bool true) ∧ J (pre ++ [x]) W' ∧ Above W.heap.size W1 W') ∨ (e = .returned (.bool false) ∧ Jx (pre ++ [x]) W')) →
  J [] W →
  CallsIn F n P g (#[.func (.yield l) #[] #[]] ++ lb) W fun e W' => (∃ v, e = .returned v) ∧ (J xs W' ∨ ∃ pre, pre <+: xs ∧ Jx pre W')
/-- How the body of a round may be left. -/
def postS {α : Type} (B : Nat) (I : List α → World → Prop) (Ix : Code → List α → World → Prop) (xs : List α) (W : World) : Exit → Act → World → Prop
 | .normal, _, W' => Above B W W' ∧ I xs W'
 | .ret, _, W' => Above B W W' ∧ Ix .ret xs W'
 | _, _, _ => False
theorem below_put {B : Nat} (W : World) (l : Nat) (o : Obj) (hl : B ≤ l) (hB : B ≤ W.heap.size) : Below B W (W.putObj l o) :=
 (Below.refl B W).grown (grownBy_putObj' W l o) hB (fun k e => by cases e; exact hl)
variable {F : Fence} {n : Nat} {P : Program}
theorem wpIn_range_s {α : Type} {g : Operand} {ps : Array Tmp} {assign body : Code} {Q : Exit → Act → World → Prop} {a : Act} {w : World}
 (hro : F.round = none) (h1 : 1 ≤ n) {gf : Nat} {lb : Array Value} (hg : a.eval g = .func (.func gf) #[] lb) (hFg : F.fn gf) (eg : ∀ args w, (callFunc gf args).run P w = .ok (.enter gf args) w)
 {enc : α → Array Value} {xs : List α} {w0 : World} (hseq : SeqS F (n - 1) P gf lb enc xs w0) (hb0 : Below w0.heap.size w0 w) (hps : ∀ x, (enc x).size = ps.size)
 (I : List α → World → Prop) (Ix : Code → List α → World → Prop) (hI : Abides w.heap.size I) (hIx : ∀ c, Abides w.heap.size (Ix c)) (h0 : I [] w) (a₁ : α → Act)
 (hassign : ∀ (l : Nat) (x : α) (W : World) (K : Act → World → Prop), K (a₁ x) W →
  assign.wpIn (F.inRound l) (n - 1 - 1) P (Exit.then K (fun _ _ _ => False)) { tmps := (ps.zip (enc x)).foldl (fun t (p, v) => t.setIfInBounds p v) a.tmps, defers := [] } W)
 (hbody : ∀ (l : Nat) (pre : List α) (x : α) (W : World), w.heap.size ≤ W.heap.size → I pre W → pre ++ [x] <+: xs → body.wpIn (F.inRound l) (n - 1 - 1) P (postS w.heap.size I Ix (pre ++ [x]) W) (a₁ x) W)
 (hdone : ∀ (D : Nat) (W : World), w.heap.size ≤ D → I xs W → W.heap[D]? = some (.deferred (some [])) → Q .normal { a with defers := { target := .collected D, args := #[] } :: a.defers } W)
 (hstop : ∀ (D : Nat) (pre : List α) (W : World), w.heap.size ≤ D → pre <+: xs → Ix .ret pre W → W.heap[D]? = some (.deferred (some [])) → Code.ret.wpIn F n P Q { a with defers := { target := .collected D, args := #[] } :: a.defers } W) :
 (Code.rangeFunc g ps assign body).wpIn F n P Q a w := by
 refine wpIn_rangeFunc ?_
 intro fn hfn
 rw [hro]
 obtain ⟨rec, hrec⟩ : ∃ rec : LoopState → Option Code → Loop, rec = fun st pe => { state := st, pending := pe, fn, tmps := a.tmps, params := ps, assign, body, defers := w.heap.size } := ⟨_, rfl⟩
 obtain ⟨W1, hW1⟩ : ∃ W1, (w.alloc (.deferred (some []))).alloc (.loop (rec .ready none)) = W1 := ⟨_, rfl⟩
 have hz : W1.heap.size = w.heap.size + 2 := by rw [← hW1]; simp
 have hb1 : Below w.heap.size w W1 := by rw [← hW1]; exact ((Below.refl _ w).alloc (Nat.le_refl _) _).alloc (by simp) _
 have hL1 : W1.heap[w.heap.size + 1]? = some (.loop (rec .ready none)) := by
  rw [← hW1]; have := World.alloc_heap_new (w.alloc (.deferred (some []))) (.loop (rec .ready none)); rwa [World.size_alloc] at this
 have hK1 : W1.heap[w.heap.size]? = some (.deferred (some [])) := by
  rw [← hW1]; exact (Below.heap_alloc _ _ _ (by simp)).trans (World.alloc_heap_new w _)
 refine ⟨w.heap.size + 1, [{ target := .collected w.heap.size, args := #[] }], W1, { target := .fn (.func gf) lb, args := #[.func (.yield (w.heap.size + 1)) #[] #[]] }, W1, gf,
  #[.func (.yield (w.heap.size + 1)) #[] #[]] ++ lb, W1, ?_, ?_, ?_, ?_, fun _ => h1, ?_⟩
 ·rw [← hW1, hrec]; exact run_enterLoop_outer _ _ _ _ _
 ·simp only [resolve, hg]
  simp [go_sem]
 ·intro f' hf'; simp [Target.leads] at hf'; subst hf'; exact hFg
 ·simp [invoke, go_sem, eg]
 ·have keep : ∀ {A C : World} {k : Nat} {o : Obj}, Below W1.heap.size A C → k < w.heap.size + 2 → A.heap[k]? = some o → C.heap[k]? = some o := fun hb hk ho => (hb.block _ (by omega)).trans ho
  refine (hseq (w.heap.size + 1)
   (fun pre W => (I pre W ∧ w.heap.size ≤ W.heap.size) ∧ W.heap[w.heap.size + 1]? = some (.loop (rec .ready none)) ∧ W.heap[w.heap.size]? = some (.deferred (some [])))
   (fun pre W => Ix .ret pre W ∧ W.heap[w.heap.size + 1]? = some (.loop (rec .done (some .ret))) ∧ W.heap[w.heap.size]? = some (.deferred (some [])))
   W1 (hb0.trans (hb1.mono hb0.size))
   (fun s A C hs hb => ⟨⟨hI s A C hs.1.1 (hb.mono (by omega)), Nat.le_trans hs.1.2 hb.size⟩, keep hb (by omega) hs.2.1, keep hb (by omega) hs.2.2⟩)
   (fun s A C hs hb => ⟨hIx _ s A C hs.1 (hb.mono (by omega)), keep hb (by omega) hs.2.1, keep hb (by omega) hs.2.2⟩)
   ?_ ⟨⟨hI _ _ _ h0 hb1, hb1.size⟩, hL1, hK1⟩).mono ?_
  ·rintro pre x W ⟨⟨hi, hsz⟩, hl, hk⟩ hpre
   have hlt : w.heap.size + 1 < W.heap.size := (Array.getElem?_eq_some_iff.1 hl).1
   have hy := run_yield (P := P) (args := enc x) hl (by rw [hrec]; exact hps x)
   rw [hrec] at hy
   refine ⟨fn, _, assign, body, hy, roundIn_of_wpIn hfn (hassign _ x W _ ⟨_, run_beginRound hl (by rw [hrec]), ?_⟩)⟩
   obtain ⟨W2, hW2⟩ : ∃ W2, W.putObj (w.heap.size + 1) (.loop { rec .ready none with state := .busy }) = W2 := ⟨_, rfl⟩
   have hl2 : W2.heap[w.heap.size + 1]? = some (.loop { rec .ready none with state := .busy }) := by rw [← hW2]; exact World.putObj_heap_same hlt
   have hk2 : W2.heap[w.heap.size]? = some (.deferred (some [])) := by rw [← hW2]; exact (World.putObj_heap_other (by omega)).trans hk
   have hb2 : Below w.heap.size W W2 := by rw [← hW2]; exact below_put _ _ _ (by omega) (by omega)
   have ha2 : Above W1.heap.size W W2 := by
    rw [← hW2, hz]
    exact ⟨by simp, fun k hk _ => World.putObj_heap_other (by omega)⟩
   have hgoal := hbody (w.heap.size + 1) pre x W2 (Nat.le_trans hsz hb2.size) (hI _ _ _ hi hb2) hpre
   have hgoal2 : body.wpIn (F.inRound (w.heap.size + 1)) (n - 1 - 1) P (postS w.heap.size I Ix (pre ++ [x]) W2) (a₁ x) (W.putObj (w.heap.size + 1) (.loop { rec .ready none with state := .busy })) := by rw [hW2]; exact hgoal
   refine wpIn_mono hgoal2 ?_
   have fin : ∀ (jump : Option Code) (W3 : World), Above w.heap.size W2 W3 →
    (Instr.endRound (w.heap.size + 1) jump).run P W3 = .ok (.bool jump.isNone) (W3.putObj (w.heap.size + 1) (.loop (rec (if jump.isNone then .ready else .done) jump))) ∧
    Below w.heap.size W3 (W3.putObj (w.heap.size + 1) (.loop (rec (if jump.isNone then .ready else .done) jump))) ∧
    Above W1.heap.size W3 (W3.putObj (w.heap.size + 1) (.loop (rec (if jump.isNone then .ready else .done) jump))) ∧
    (W3.putObj (w.heap.size + 1) (.loop (rec (if jump.isNone then .ready else .done) jump))).heap[w.heap.size + 1]? = some (.loop (rec (if jump.isNone then .ready else .done) jump)) ∧
    (W3.putObj (w.heap.size + 1) (.loop (rec (if jump.isNone then .ready else .done) jump))).heap[w.heap.size]? = some (.deferred (some [])) := fun jump W3 hk3 => by
    have hl3 := hk3.some (by omega) hl2
    have hlt3 := (Array.getElem?_eq_some_iff.1 hl3).1
    refine ⟨?_, below_put _ _ _ (by omega) (by omega), ⟨by simp, fun k hk _ => World.putObj_heap_other (by omega)⟩, World.putObj_heap_same hlt3, (World.putObj_heap_other (by omega)).trans (hk3.some (Nat.le_refl _) hk2)⟩
    have := run_endRound (P := P) jump hl3
    rw [hrec] at this ⊢
    exact this
   rintro e a3 W3 hp
   cases e with
   | normal =>
    obtain ⟨hk3, hi3⟩ := hp
    obtain ⟨hr, hb4, ha4, hl4, hk4⟩ := fin none W3 hk3
    exact ⟨_, _, hr, .inl ⟨rfl, ⟨⟨hI _ _ _ hi3 hb4, Nat.le_trans (Nat.le_trans hsz hb2.size) (Nat.le_trans hk3.size hb4.size)⟩, hl4, hk4⟩, (ha2.trans (hk3.mono (by omega))).trans ha4⟩⟩
   | ret =>
    obtain ⟨hk3, hi3⟩ := hp
    obtain ⟨hr, hb4, _, hl4, hk4⟩ := fin (some .ret) W3 hk3
    exact ⟨_, _, hr, .inr ⟨rfl, hIx _ _ _ _ hi3 hb4, hl4, hk4⟩⟩
   | exit id => exact hp.elim
   | goto t => exact hp.elim
   | panic ch => exact hp.elim
   | outgrown => exact hp.elim
  ·rintro e W2 ⟨⟨v, rfl⟩, (⟨⟨hi, hsz⟩, hl, hk⟩ | ⟨pre, hpre, hi, hl, hk⟩)⟩
   ·exact ⟨none, _, by have := run_endLoop (P := P) hl (by rw [hrec]; simp); rw [hrec] at this; exact this, hdone _ _ (Nat.le_refl _) (hI _ _ _ hi (below_put _ _ _ (by omega) hsz)) ((World.putObj_heap_other (by omega)).trans hk)⟩
   ·have hlt := (Array.getElem?_eq_some_iff.1 hl).1
    exact ⟨some .ret, _, by have := run_endLoop (P := P) hl (by rw [hrec]; simp); rw [hrec] at this; exact this, hstop _ pre _ (Nat.le_refl _) hpre (hIx _ _ _ _ hi (below_put _ _ _ (by omega) (by omega))) ((World.putObj_heap_other (by omega)).trans hk)⟩
/-- A place in a line: level, turn, number. -/
structure P3 where (l t i : Int)
instance : Inhabited P3 := ⟨⟨0, 0, 0⟩⟩
def P3.cs (x : P3) : List Value := [.int .i64 x.l, .int .i64 x.t, .int .i64 x.i]
def P3.val (x : P3) : Value := .agg #[.int .i64 x.l, .int .i64 x.t, .int .i64 x.i]
def pcells (ps : List P3) : List Value := ps.flatMap P3.cs
def aheadP (x y : P3) : Bool := if x.l = y.l then (if x.t = y.t then decide (x.i < y.i) else decide (x.t < y.t)) else decide (y.l < x.l)
theorem pcells_length (ps : List P3) : (pcells ps).length = ps.length * 3 := by
 induction ps with
 | nil => rfl
 | cons x r ih => simp only [pcells, List.flatMap_cons, List.length_append, List.length_cons] at ih ⊢; rw [ih]; simp [P3.cs]; omega
theorem pcells_get (ps : List P3) (k : Nat) (hk : k < ps.length) (j : Nat) (hj : j < 3) : (pcells ps)[k * 3 + j]? = ps[k].cs[j]? := by
 induction ps generalizing k with
 | nil => simp at hk
 | cons x r ih =>
  have e : pcells (x :: r) = x.cs ++ pcells r := rfl
  rw [e]
  cases k with
  | zero => rw [List.getElem?_append_left (by simp [P3.cs]; omega)]; simp
  | succ k =>
   have hl : x.cs.length = 3 := rfl
   rw [List.getElem?_append_right (by rw [hl]; omega), hl, show (k + 1) * 3 + j - 3 = k * 3 + j from by omega, ih k (by simpa using hk)]
   simp
theorem pcells_at (ps : List P3) (j : Nat) : (pcells ps)[j]? = (ps[j / 3]?).bind (fun t => t.cs[j % 3]?) := by
 by_cases h : j / 3 < ps.length
 ·have := pcells_get ps (j / 3) h (j % 3) (by omega)
  rw [show j / 3 * 3 + j % 3 = j from by omega] at this
  rw [this]; simp [h]
 ·rw [List.getElem?_eq_none (by rw [pcells_length]; omega), List.getElem?_eq_none (by omega)]; rfl
theorem pcells_put (ps : List P3) (k : Nat) (x : P3) : (((pcells ps).set (k * 3) (.int .i64 x.l)).set (k * 3 + 1) (.int .i64 x.t)).set (k * 3 + 2) (.int .i64 x.i) = pcells (ps.set k x) := by
 apply List.ext_getElem?
 intro j
 rw [pcells_at (ps.set k x)]
 simp only [List.getElem?_set, List.length_set, pcells_length]
 by_cases hk : k = j / 3
 ·subst hk
  by_cases hl : j / 3 < ps.length
  ·have h3 : j % 3 = 0 ∨ j % 3 = 1 ∨ j % 3 = 2 := by omega
   have hj : j < ps.length * 3 := by omega
   rcases h3 with h | h | h
   all_goals rw [h]
   all_goals simp only [hl, if_true, Option.bind_some, P3.cs]
   ·rw [if_neg (by omega), if_neg (by omega), if_pos (by omega), if_pos (by omega)]; rfl
   ·rw [if_neg (by omega), if_pos (by omega), if_pos (by omega)]; rfl
   ·rw [if_pos (by omega), if_pos (by omega)]; rfl
  ·simp only [hl, if_false, if_true, Option.bind_none]
   repeat (split; · first | omega | (split <;> first | omega | rfl))
   rw [List.getElem?_eq_none (by rw [pcells_length]; omega)]
 ·rw [if_neg hk, if_neg (by omega), if_neg (by omega), if_neg (by omega), pcells_at]
theorem pcells_take (xs : List P3) (k : Nat) : (pcells xs).take (k * 3) = pcells (xs.take k) := by
 apply List.ext_getElem?
 intro j
 rw [List.getElem?_take, pcells_at, pcells_at, List.getElem?_take]
 by_cases h : j < k * 3
 ·rw [if_pos h, if_pos (show j / 3 < k by omega)]
 ·rw [if_neg h, if_neg (show ¬ j / 3 < k by omega)]; rfl
theorem infoPlace : (Tryz.prog.info? 124).map (fun i => (i.zero, i.size, i.bytes)) = some (some (.agg #[.int .i64 0, .int .i64 0, .int .i64 0]), 3, 24) := by kernel_rfl
set_option maxHeartbeats 4000000 in
theorem ahead_any (l t i l2 t2 i2 : Int) (w : World) :
 Calls Tryz.prog 171 #[.agg #[.int .i64 l, .int .i64 t, .int .i64 i], .agg #[.int .i64 l2, .int .i64 t2, .int .i64 i2]] w fun r w' => r = .returned (.bool (aheadP ⟨l, t, i⟩ ⟨l2, t2, i2⟩)) ∧ Below w.heap.size w w' := by
 by_cases k1 : l = l2
 ·by_cases k2 : t = t2
  ·have e : aheadP ⟨l, t, i⟩ ⟨l2, t2, i2⟩ = decide (i < i2) := by simp [aheadP, k1, k2]
   rw [e]
   subst k1 k2
   go_enter Tryz.func171, Tryz.ntmps171
   go_wp2
   go_ret
   exact ⟨rfl, by go_grown⟩
  ·have e : aheadP ⟨l, t, i⟩ ⟨l2, t2, i2⟩ = decide (t < t2) := by simp [aheadP, k1, k2]
   rw [e]
   subst k1
   go_enter Tryz.func171, Tryz.ntmps171
   go_wp2
   go_ret
   exact ⟨rfl, by go_grown⟩
 ·have e : aheadP ⟨l, t, i⟩ ⟨l2, t2, i2⟩ = decide (l2 < l) := by simp [aheadP, k1]
  rw [e]
  go_enter Tryz.func171, Tryz.ntmps171
  go_wp2
  go_ret
  exact ⟨rfl, by go_grown⟩
/-- Place k behind a slice that is not empty: where it lies, and its three cells. -/
theorem Row.ps_at {w : World} {A : Option Addr} {ps : List P3} (h : Row w A (pcells ps)) {k : Nat} (hk : k < ps.length) : ∃ (b off : Nat), A = some ⟨b, off, none⟩ ∧ b < w.heap.size ∧
 w.cell? ⟨b, off + k * 3, none⟩ = some (.int .i64 ps[k].l) ∧ w.cell? ⟨b, off + k * 3 + 1, none⟩ = some (.int .i64 ps[k].t) ∧ w.cell? ⟨b, off + k * 3 + 2, none⟩ = some (.int .i64 ps[k].i) := by
 obtain ⟨b, off, e, hc⟩ := h (by rw [pcells_length]; omega)
 have h0 : w.cell? ⟨b, off + k * 3, none⟩ = some (.int .i64 ps[k].l) := hc (k * 3 + 0) _ ((pcells_get ps k hk 0 (by omega)).trans rfl)
 exact ⟨b, off, e, World.block_lt_of_cell? w _ h0, h0, hc (k * 3 + 1) _ ((pcells_get ps k hk 1 (by omega)).trans rfl), hc (k * 3 + 2) _ ((pcells_get ps k hk 2 (by omega)).trans rfl)⟩
set_option maxHeartbeats 1000000 in
theorem len_any (A : Option Addr) (n c : Nat) (w : World) :
 Calls Tryz.prog 103 #[.slice A n c] w fun r w' => r = .returned (.int .i64 n) ∧ w = w' := by
 go_enter Tryz.func103, Tryz.ntmps103
 go_wp2
 go_ret
 exact ⟨rfl, rfl⟩
set_option maxRecDepth 100000 in
set_option maxHeartbeats 4000000 in
theorem less_any (ps : List P3) (A : Option Addr) (c i j : Nat) (hi : i < ps.length) (hj : j < ps.length) (hl : ps.length ≤ 1048576) (w : World) (h : Row w A (pcells ps)) :
 Calls Tryz.prog 167 #[.slice A ps.length c, .int .i64 i, .int .i64 j] w fun r w' => r = .returned (.bool (aheadP ps[i] ps[j])) ∧ Below w.heap.size w w' := by
 obtain ⟨b, off, rfl, hb, z0, z1, z2⟩ := h.ps_at hi
 obtain ⟨b', off', e, hb', y0, y1, y2⟩ := h.ps_at hj
 injection e with e
 injection e with e1 e2
 subst e1 e2
 have hA : aheadP ps[i] ps[j] = aheadP ⟨ps[i].l, ps[i].t, ps[i].i⟩ ⟨ps[j].l, ps[j].t, ps[j].i⟩ := rfl
 rw [hA]
 clear hA h hb'
 have hi1 : (i : Int) < (ps.length : Int) := by omega
 have hj1 : (j : Int) < (ps.length : Int) := by omega
 have hi0 : (0 : Int) ≤ (i : Int) := by omega
 have hj0 : (0 : Int) ≤ (j : Int) := by omega
 generalize ps[i].l = l1 at *
 generalize ps[i].t = t1 at *
 generalize ps[i].i = i1 at *
 generalize ps[j].l = l2 at *
 generalize ps[j].t = t2 at *
 generalize ps[j].i = i2 at *
 go_enter Tryz.func167, Tryz.ntmps167
 go_wp2_with fail
 have c0 := KeptW.cell (W0 := w) z0
 have c1 := KeptW.cell (W0 := w) z1
 have c2 := KeptW.cell (W0 := w) z2
 have c3 := KeptW.cell (W0 := w) y0
 have c4 := KeptW.cell (W0 := w) y1
 have c5 := KeptW.cell (W0 := w) y2
 refine region_kept (W0 := w) (x := KeptW.mk' (Below.refl w.heap.size w)) (by kernel_rfl) (by kernel_rfl) ?_
 repeat (go_big_quiet_step (first | (go_at_call 171; with_reducible exact (kept_call (ahead_any l1 t1 i1 l2 t2 i2 _)))))
 refine wpQuiet_nil ?_
 rintro _ ⟨x, rfl⟩
 go_wp2
 go_ret
 exact ⟨rfl, x.below⟩
theorem aheadP_iff {x y : P3} : aheadP x y = true ↔ y.l < x.l ∨ x.l = y.l ∧ (x.t < y.t ∨ x.t = y.t ∧ x.i < y.i) := by
 unfold aheadP
 split
 ·rename_i h1
  split
  ·rename_i h2; simp only [decide_eq_true_eq]; omega
  ·rename_i h2; simp only [decide_eq_true_eq]; omega
 ·rename_i h1; simp only [decide_eq_true_eq]; omega
/-- x stands no later than y. -/
def leP (x y : P3) : Prop := aheadP y x = false
theorem leP_iff {x y : P3} : leP x y ↔ ¬ (x.l < y.l ∨ y.l = x.l ∧ (y.t < x.t ∨ y.t = x.t ∧ y.i < x.i)) := by
 rw [← aheadP_iff]; unfold leP; simp
theorem leP.refl (x : P3) : leP x x := by rw [leP_iff]; omega
theorem leP.trans {x y z : P3} (h : leP x y) (k : leP y z) : leP x z := by rw [leP_iff] at *; omega
theorem leP.antisymm {x y : P3} (h : leP x y) (k : leP y x) : x = y := by
 rw [leP_iff] at *
 have h1 : x.l = y.l ∧ x.t = y.t ∧ x.i = y.i := by omega
 cases x; cases y
 simp only at h1
 obtain ⟨h1, h2, h3⟩ := h1
 subst h1 h2 h3
 rfl
theorem leP.of_ahead {x y : P3} (h : aheadP x y = true) : leP x y := by rw [aheadP_iff] at h; rw [leP_iff]; omega
def swapL (ps : List P3) (i j : Nat) : List P3 := (ps.set i (ps.getD j default)).set j (ps.getD i default)
@[simp] theorem swapL_length (ps : List P3) (i j : Nat) : (swapL ps i j).length = ps.length := by simp [swapL]
theorem getD3 {ps : List P3} {k : Nat} (hk : k < ps.length) : ps.getD k default = ps[k] := by rw [List.getD_eq_getElem?_getD, List.getElem?_eq_getElem hk]; rfl
theorem swapL_get {ps : List P3} {i j : Nat} (hi : i < ps.length) (hj : j < ps.length) (k : Nat) (hk : k < ps.length) :
 (swapL ps i j).getD k default = if k = j then ps.getD i default else if k = i then ps.getD j default else ps.getD k default := by
 simp only [List.getD_eq_getElem?_getD, swapL, List.getElem?_set, List.length_set]
 by_cases h1 : k = j
 ·subst h1; simp [hj]
 ·rw [if_neg h1, if_neg (show ¬ j = k from fun e => h1 e.symm)]
  by_cases h2 : k = i
  ·subst h2; simp [hi]
  ·rw [if_neg h2, if_neg (show ¬ i = k from fun e => h2 e.symm)]
theorem swapL_self {ps : List P3} {i : Nat} (hi : i < ps.length) : swapL ps i i = ps := by
 unfold swapL
 rw [getD3 hi, List.set_set, List.set_getElem_self]
theorem set_perm {ps : List P3} {j : Nat} (hj : j < ps.length) (x : P3) : (ps[j] :: ps.set j x).Perm (x :: ps) := by
 induction ps generalizing j with
 | nil => simp at hj
 | cons y r ih =>
  cases j with
  | zero => exact List.Perm.swap _ _ _
  | succ j =>
   have h := ih (j := j) (by simpa using hj)
   simp only [List.getElem_cons_succ, List.set_cons_succ]
   exact (List.Perm.swap _ _ _).trans ((h.cons y).trans (List.Perm.swap _ _ _))
theorem swapL_perm {ps : List P3} {i j : Nat} (hi : i < ps.length) (hj : j < ps.length) : (swapL ps i j).Perm ps := by
 by_cases hij : i = j
 ·subst hij; rw [swapL_self hi]
 ·unfold swapL
  rw [getD3 hi, getD3 hj]
  have h1 := set_perm (ps := ps.set i ps[j]) (j := j) (by simpa using hj) ps[i]
  rw [List.getElem_set_ne hij] at h1
  have h2 := set_perm hi ps[j]
  exact (List.perm_cons ps[j]).1 (h1.trans h2)
theorem swapL_append {qs : List P3} {i j : Nat} (hi : i < qs.length) (hj : j < qs.length) (rs : List P3) : swapL (qs ++ rs) i j = swapL qs i j ++ rs := by
 unfold swapL
 rw [getD3 (by simp; omega), getD3 (by simp; omega), List.getElem_append_left hi, List.getElem_append_left hj, getD3 hi, getD3 hj, List.set_append_left _ _ hi, List.set_append_left _ _ (by simpa using hj)]
/-- The place of number k. -/
abbrev at3 (ps : List P3) (k : Nat) : P3 := ps.getD k default
def par (k : Nat) : Nat := (k - 1) / 2
def HeapL (ps : List P3) : Prop := ∀ k, 0 < k → k < ps.length → leP (at3 ps (par k)) (at3 ps k)
/-- A heap, but for number j, which may be ahead of those above it. -/
def HeapUp (ps : List P3) (j : Nat) : Prop :=
 (∀ k, 0 < k → k < ps.length → k ≠ j → leP (at3 ps (par k)) (at3 ps k)) ∧ (0 < j → ∀ k, 0 < k → k < ps.length → par k = j → leP (at3 ps (par j)) (at3 ps k))
/-- A heap, but for number i, which may be behind those below it. -/
def HeapDn (ps : List P3) (i : Nat) : Prop :=
 (∀ k, 0 < k → k < ps.length → par k ≠ i → leP (at3 ps (par k)) (at3 ps k)) ∧ (0 < i → ∀ k, 0 < k → k < ps.length → par k = i → leP (at3 ps (par i)) (at3 ps k))
theorem par_lt {k : Nat} (h : 0 < k) : par k < k := by unfold par; omega
theorem HeapL.root {ps : List P3} (h : HeapL ps) (k : Nat) (hk : k < ps.length) : leP (at3 ps 0) (at3 ps k) := by
 induction k using Nat.strongRecOn with
 | ind k ih =>
  by_cases h0 : k = 0
  ·subst h0; exact leP.refl _
  ·have h1 := par_lt (k := k) (by omega)
   exact (ih (par k) h1 (by omega)).trans (h k (by omega) hk)
theorem HeapL.first {ps : List P3} (h : HeapL ps) : ∀ x ∈ ps, leP (at3 ps 0) x := by
 intro x hx
 obtain ⟨k, hk, rfl⟩ := List.mem_iff_getElem.1 hx
 have := h.root k hk
 unfold at3 at this ⊢
 rwa [getD3 hk] at this
theorem HeapUp.zero {ps : List P3} (h : HeapUp ps 0) : HeapL ps := fun k h0 hk => h.1 k h0 hk (by omega)
theorem HeapUp.done {ps : List P3} {j : Nat} (h : HeapUp ps j) (hj : aheadP (at3 ps j) (at3 ps (par j)) = false) : HeapL ps := fun k h0 hk => by
 by_cases e : k = j
 ·subst e; exact hj
 ·exact h.1 k h0 hk e
theorem HeapUp.swap {ps : List P3} {j : Nat} (h : HeapUp ps j) (h0 : 0 < j) (hj : j < ps.length) (ha : aheadP (at3 ps j) (at3 ps (par j)) = true) : HeapUp (swapL ps (par j) j) (par j) := by
 have hp := par_lt h0
 have hi : par j < ps.length := by omega
 have hle := leP.of_ahead ha
 refine ⟨fun k hk0 hk hne => ?_, fun hp0 k hk0 hk hpk => ?_⟩
 ·rw [swapL_length] at hk
  have hk1 := par_lt hk0
  unfold at3
  rw [swapL_get hi hj _ hk, swapL_get hi hj _ (by omega)]
  by_cases e1 : k = j
  ·subst e1
   rw [if_pos rfl, if_neg (by omega), if_pos rfl]
   exact hle
  ·rw [if_neg e1, if_neg hne]
   by_cases e2 : par k = j
   ·rw [if_pos e2]
    exact h.2 h0 k hk0 hk e2
   ·rw [if_neg e2]
    by_cases e3 : par k = par j
    ·rw [if_pos e3]
     have := h.1 k hk0 hk e1
     rw [e3] at this
     exact hle.trans this
    ·rw [if_neg e3]
     exact h.1 k hk0 hk e1
 ·rw [swapL_length] at hk
  have hk1 := par_lt hk0
  have hpp := par_lt hp0
  unfold at3
  rw [swapL_get hi hj _ hk, swapL_get hi hj _ (by omega), if_neg (by omega), if_neg (by omega)]
  by_cases e1 : k = j
  ·subst e1
   rw [if_pos rfl]
   exact h.1 (par k) (by omega) hi (by omega)
  ·rw [if_neg e1, if_neg (by omega)]
   have h1 := h.1 k hk0 hk e1
   rw [hpk] at h1
   exact (h.1 (par j) (by omega) hi (by omega)).trans h1
/-- No one below number i is ahead of it: a heap. -/
theorem HeapDn.done {ps : List P3} {i : Nat} (h : HeapDn ps i) (hi : ∀ k, 0 < k → k < ps.length → par k = i → leP (at3 ps i) (at3 ps k)) : HeapL ps := fun k h0 hk => by
 by_cases e : par k = i
 ·rw [e]; exact hi k h0 hk e
 ·exact h.1 k h0 hk e
/-- Number i changes places with the first one of those below it. -/
theorem HeapDn.swap {ps : List P3} {i j : Nat} (h : HeapDn ps i) (h0 : 0 < j) (hj : j < ps.length) (hp : par j = i) (ha : aheadP (at3 ps j) (at3 ps i) = true)
 (hm : ∀ k, 0 < k → k < ps.length → par k = i → leP (at3 ps j) (at3 ps k)) : HeapDn (swapL ps i j) j := by
 have hpl := par_lt h0
 have hi : i < ps.length := by omega
 have hle := leP.of_ahead ha
 refine ⟨fun k hk0 hk hne => ?_, fun hp0 k hk0 hk hpk => ?_⟩
 ·rw [swapL_length] at hk
  have hk1 := par_lt hk0
  unfold at3
  rw [swapL_get hi hj _ hk, swapL_get hi hj _ (by omega)]
  by_cases e1 : k = j
  ·subst e1
   rw [if_pos rfl, if_neg (by omega), if_pos hp]
   exact hle
  ·rw [if_neg e1, if_neg hne]
   by_cases e2 : k = i
   ·rw [if_pos e2, if_neg (by omega)]
    have h1 := h.2 (by omega) j h0 hj hp
    rw [← e2] at h1
    exact h1
   ·rw [if_neg e2]
    by_cases e3 : par k = i
    ·rw [if_pos e3]
     exact hm k hk0 hk e3
    ·rw [if_neg e3]
     exact h.1 k hk0 hk e3
 ·rw [swapL_length] at hk
  have hk1 := par_lt hk0
  unfold at3
  rw [swapL_get hi hj _ hk, swapL_get hi hj _ (by omega), if_neg (show ¬ par j = j by omega), if_pos hp, if_neg (show ¬ k = j by omega), if_neg (show ¬ k = i by omega)]
  have h1 := h.1 k hk0 hk (by omega)
  rw [hpk] at h1
  exact h1
theorem HeapL.push {ps : List P3} (h : HeapL ps) (x : P3) : HeapUp (ps ++ [x]) ps.length := by
 refine ⟨fun k h0 hk hne => ?_, fun h0 k hk0 hk hp => ?_⟩
 ·simp at hk
  have hk1 := par_lt h0
  have e : ∀ m, m < ps.length → at3 (ps ++ [x]) m = at3 ps m := fun m hm => by unfold at3; rw [getD3 (by simp; omega), getD3 hm, List.getElem_append_left hm]
  rw [e k (by omega), e (par k) (by omega)]
  exact h k h0 (by omega)
 ·simp at hk
  have hk1 := par_lt hk0
  omega
/-- The last one at the root: a heap but for it. -/
theorem HeapL.popped {qs : List P3} {x : P3} (h : HeapL (qs ++ [x])) (hq : 0 < qs.length) : HeapDn (qs.set 0 x) 0 := by
 refine ⟨fun k h0 hk hne => ?_, fun h0 => by omega⟩
 rw [List.length_set] at hk
 have hk1 := par_lt h0
 have e : ∀ m, 0 < m → m < qs.length → at3 (qs.set 0 x) m = at3 (qs ++ [x]) m := fun m hm0 hm => by
  unfold at3; rw [getD3 (by simp; omega), getD3 (by simp; omega), List.getElem_append_left hm, List.getElem_set_ne (by omega)]
 rw [e k (by omega) hk, e (par k) (by omega) (by omega)]
 exact h k h0 (by simp; omega)
theorem HeapL.nil : HeapL [] := fun k _ hk => by simp at hk
theorem swap_last {qs : List P3} {x : P3} (hq : 0 < qs.length) : swapL (qs ++ [x]) 0 qs.length = qs.set 0 x ++ [at3 qs 0] := by
 unfold swapL at3
 rw [getD3 (by simp), getD3 (by simp), getD3 hq, List.getElem_append_left hq, List.getElem_concat_length rfl, List.set_append_left _ _ hq, List.set_append_right _ _ (by simp)]
 simp
theorem popped_perm {qs : List P3} {x : P3} (hq : 0 < qs.length) : (at3 qs 0 :: qs.set 0 x).Perm (qs ++ [x]) := by
 have h := set_perm hq x
 unfold at3
 rw [getD3 hq]
 exact h.trans (List.perm_append_comm (l₁ := [x]) (l₂ := qs))
/-! ### The model's lines are sorted. -/
theorem sorted_ins (pl : Int → P3) (P : Int → Bool) (k : Int) : ∀ (xs : List Int), (∀ j ∈ xs, P j = aheadP (pl k) (pl j)) → (xs.map pl).Pairwise leP → ((insAt xs (posDown P xs xs.length) k).map pl).Pairwise leP := by
 intro xs hP hs
 have hpos : ∀ n, n ≤ xs.length → (∀ m, posDown P xs n ≤ m → m < n → P (xs.getD m 0) = true) ∧ (0 < posDown P xs n → P (xs.getD (posDown P xs n - 1) 0) = false) := by
  intro n hn
  induction n with
  | zero => exact ⟨fun m h1 h2 => by omega, fun h => by simp [posDown] at h⟩
  | succ n ih =>
   have ih := ih (by omega)
   simp only [posDown]
   split
   ·rename_i hp
    refine ⟨fun m h1 h2 => ?_, ih.2⟩
    by_cases e : m = n
    ·subst e; exact hp
    ·exact ih.1 m h1 (by omega)
   ·rename_i hp
    exact ⟨fun m h1 h2 => by omega, fun _ => by simpa using hp⟩
 obtain ⟨h1, h2⟩ := hpos xs.length (Nat.le_refl _)
 have hle := posDown_le P xs xs.length
 generalize posDown P xs xs.length = p at *
 have hg : ∀ m (hm : m < xs.length), xs.getD m 0 = xs[m] := fun m hm => by rw [List.getD_eq_getElem?_getD, List.getElem?_eq_getElem hm]; rfl
 unfold insAt
 rw [List.map_append, List.map_append, List.map_take, List.map_drop]
 have hall := hs
 rw [← List.take_append_drop p (xs.map pl)] at hall
 have hap := List.pairwise_append.1 hall
 -- those ahead
 have ht : ∀ y ∈ (xs.map pl).take p, leP y (pl k) := by
  intro y hy
  rcases Nat.eq_zero_or_pos p with rfl | hp
  ·simp at hy
  ·have hq : p - 1 < xs.length := by omega
   have hlast : leP (pl xs[p - 1]) (pl k) := by
    have h3 := h2 hp
    rw [hg _ hq, hP _ (List.getElem_mem hq)] at h3
    exact h3
   obtain ⟨m, hm, rfl⟩ := List.mem_iff_getElem.1 hy
   rw [List.length_take] at hm
   have hm' : m < xs.length := by simp at hm; omega
   rw [List.getElem_take, List.getElem_map]
   by_cases e : m = p - 1
   ·subst e; exact hlast
   ·have := (List.pairwise_iff_getElem.1 hs) m (p - 1) (by simpa using hm') (by simpa using hq) (by simp at hm; omega)
    rw [List.getElem_map, List.getElem_map] at this
    exact this.trans hlast
 have hd : ∀ y ∈ (xs.map pl).drop p, leP (pl k) y := by
  intro y hy
  obtain ⟨m, hm, rfl⟩ := List.mem_iff_getElem.1 hy
  rw [List.length_drop] at hm
  have hm' : p + m < xs.length := by simp at hm; omega
  rw [List.getElem_drop, List.getElem_map]
  have h3 := h1 (p + m) (by omega) hm'
  rw [hg _ hm', hP _ (List.getElem_mem hm')] at h3
  exact leP.of_ahead h3
 refine List.pairwise_append.2 ⟨List.pairwise_append.2 ⟨hap.1, by simp, fun a ha b hb => ?_⟩, hap.2.1, fun a ha b hb => ?_⟩
 ·simp at hb; subst hb; exact ht a ha
 ·rcases List.mem_append.1 ha with ha | ha
  ·exact hap.2.2 a ha b hb
  ·simp at ha; subst ha; exact hd b hb
theorem ins_perm (xs : List Int) (p : Nat) (k : Int) : (insAt xs p k).Perm (k :: xs) := by
 unfold insAt
 rw [List.append_assoc]
 refine (List.perm_append_comm (l₁ := xs.take p) (l₂ := [k] ++ xs.drop p)).trans ?_
 rw [List.append_assoc, List.singleton_append]
 refine List.Perm.cons k ?_
 exact (List.perm_append_comm).trans (by rw [List.take_append_drop])
/-- All numbers below n that meet q, in order. -/
def pick (q : Nat → Bool) : Nat → List Nat
 | 0 => []
 | k + 1 => if q k then pick q k ++ [k] else pick q k
theorem lineM_perm (q : Nat → Bool) (P : Nat → Int → Bool) (n : Nat) : (lineM q P n).Perm ((pick q n).map Int.ofNat) := by
 induction n with
 | zero => exact List.Perm.nil
 | succ n ih =>
  simp only [lineM, pick]
  split
  ·rw [List.map_append]
   exact (ins_perm _ _ _).trans ((ih.cons _).trans (List.perm_append_comm (l₁ := [(n : Int)]) (l₂ := (pick q n).map Int.ofNat)))
  ·exact ih
theorem lineM_sorted (q : Nat → Bool) (P : Nat → Int → Bool) (pl : Int → P3) (hP : ∀ k j : Nat, j < k → P k j = aheadP (pl k) (pl j)) (n : Nat) : ((lineM q P n).map pl).Pairwise leP := by
 induction n with
 | zero => exact List.Pairwise.nil
 | succ n ih =>
  simp only [lineM]
  split
  ·refine sorted_ins pl (P n) n _ (fun j hj => ?_) ih
   obtain ⟨m, rfl, hm⟩ := lineM_mem q P n j hj
   exact hP n m hm
  ·exact ih
/-- Whatever lists just these places in order is the model's line. -/
theorem line_eq (q : Nat → Bool) (P : Nat → Int → Bool) (pl : Int → P3) (hi : ∀ k, (pl k).i = k) (hP : ∀ k j : Nat, j < k → P k j = aheadP (pl k) (pl j)) (n : Nat) (out : List P3) (hs : out.Pairwise leP) (hp : out.Perm ((pick q n).map fun k => pl (Int.ofNat k))) : out.map P3.i = lineM q P n := by
 have h1 : out = (lineM q P n).map pl := by
  refine List.Perm.eq_of_pairwise (le := leP) (fun a b _ _ h k => leP.antisymm h k) hs (lineM_sorted q P pl hP n) (hp.trans ?_)
  have := (lineM_perm q P n).map pl
  rw [List.map_map] at this
  exact this.symm
 rw [h1, List.map_map]
 have : (P3.i ∘ pl) = id := by funext k; exact hi k
 rw [this, List.map_id]
end Go.Proofs.YtfjgelegojbmgaaGreat
