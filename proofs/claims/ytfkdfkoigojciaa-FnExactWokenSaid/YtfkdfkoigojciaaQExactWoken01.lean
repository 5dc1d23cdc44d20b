/- A pool that comes in by value is opened: its lists by their cells. No condition. -/
import Derived.Test.YtfkdfkoigojciaaRows
import Derived.WalkKit
import Derived.ProofKit
import Derived.OpenShut
import Derived.Carry
import Derived.Below
import Derived.ChangeOld
import Derived.Lib.SmallJoins
import Derived.Test.YtfkdfkoigojciaaQB03
import Derived.Deep.Slices

namespace Go.Proofs.Ytfkdfkoigojciaa
open Go.RowKit
set_option linter.unusedVariables false
open Go.ChangeShapes Go.WideShapes Go.ChangeAt Go.RowKit Go.Joins Go.Deep
theorem own : ownKnob Try.prog.godebug = none := by kernel_rfl
theorem laidOut : laidOutB Try.prog = true := by kernel_rfl
section
variable {H : Type} {enc : TypeId × Value → H} {P : Program} {w : World} {base : Nat} {spare : Nat → Bool} {held : Bool}
theorem open_agg5 {r : Reach} {b0 : Nat} {t : TypeId} {f0 f1 f2 f3 f4 : Field} {v : Value} {d : DataW H} {p : List MemPlace} (hs : P.underlying t = some (.struct #[f0, f1, f2, f3, f4])) (hone : oneCellFields P #[f0, f1, f2, f3, f4] = true) (hC : P.cellsOf t = 5)
 (hv : Value.okWide P w r b0 t v) (h : DataW.Trod enc P w base spare held t v d p) :
 ∃ (v0 v1 v2 v3 v4 : Value) (y0 y1 y2 y3 y4 : DataW H × List MemPlace) (n : Nat), v = .agg #[v0, v1, v2, v3, v4] ∧ d = .agg [y0.1, y1.1, y2.1, y3.1, y4.1] ∧ p = y0.2 ++ (y1.2 ++ (y2.2 ++ (y3.2 ++ y4.2))) ∧
  DataW.trod enc P w base spare held n f0.type [v0] = some y0 ∧ DataW.trod enc P w base spare held n f1.type [v1] = some y1 ∧ DataW.trod enc P w base spare held n f2.type [v2] = some y2 ∧ DataW.trod enc P w base spare held n f3.type [v3] = some y3 ∧ DataW.trod enc P w base spare held n f4.type [v4] = some y4 := by
 obtain ⟨cs, rfl, hsz⟩ := okWide_struct hs hv
 obtain ⟨l⟩ := cs
 match l, hsz.trans hC with
 | [c0, c1, c2, c3, c4], _ =>
  obtain ⟨fuel, hf⟩ := h
  obtain ⟨xs, n, _, hx, _, hlen, hg⟩ := DataW.trod_struct hs hf
  obtain ⟨o0, k0⟩ := hone_of hone 0 f0 rfl
  obtain ⟨o1, k1⟩ := hone_of hone 1 f1 rfl
  obtain ⟨o2, k2⟩ := hone_of hone 2 f2 rfl
  obtain ⟨o3, k3⟩ := hone_of hone 3 f3 rfl
  obtain ⟨o4, k4⟩ := hone_of hone 4 f4 rfl
  match xs, hlen with
  | [y0, y1, y2, y3, y4], _ =>
   simp only [Prod.mk.injEq] at hx
   exact ⟨c0, c1, c2, c3, c4, y0, y1, y2, y3, y4, n, rfl, by simpa using hx.1, by simpa using hx.2, by simpa [Value.cells, o0, k0] using hg 0 f0 rfl, by simpa [Value.cells, o1, k1] using hg 1 f1 rfl, by simpa [Value.cells, o2, k2] using hg 2 f2 rfl, by simpa [Value.cells, o3, k3] using hg 3 f3 rfl, by simpa [Value.cells, o4, k4] using hg 4 f4 rfl⟩
/-- Five fields that are all int64: the value is written out. -/
theorem ints5 {r : Reach} {b0 : Nat} {t e : TypeId} {f0 f1 f2 f3 f4 : Field} {v : Value} {d : DataW H} {p : List MemPlace} (hs : P.underlying t = some (.struct #[f0, f1, f2, f3, f4])) (hone : oneCellFields P #[f0, f1, f2, f3, f4] = true) (hC : P.cellsOf t = 5)
 (he : P.underlying e = some (.int .i64)) (h0 : f0.type = e) (h1 : f1.type = e) (h2 : f2.type = e) (h3 : f3.type = e) (h4 : f4.type = e)
 (hv : Value.okWide P w r b0 t v) (h : DataW.Trod enc P w base spare held t v d p) :
 ∃ a0 a1 a2 a3 a4 : Int, v = .agg #[.int .i64 a0, .int .i64 a1, .int .i64 a2, .int .i64 a3, .int .i64 a4] ∧ (Lit.int .i64 a0).wf = true ∧ (Lit.int .i64 a1).wf = true ∧ (Lit.int .i64 a2).wf = true ∧ (Lit.int .i64 a3).wf = true ∧ (Lit.int .i64 a4).wf = true := by
 obtain ⟨v0, v1, v2, v3, v4, y0, y1, y2, y3, y4, n, rfl, _, _, g0, g1, g2, g3, g4⟩ := open_agg5 hs hone hC hv h
 rw [h0] at g0; rw [h1] at g1; rw [h2] at g2; rw [h3] at g3; rw [h4] at g4
 obtain ⟨a0, e0, _, w0⟩ := DataW.trod_int he g0
 obtain ⟨a1, e1, _, w1⟩ := DataW.trod_int he g1
 obtain ⟨a2, e2, _, w2⟩ := DataW.trod_int he g2
 obtain ⟨a3, e3, _, w3⟩ := DataW.trod_int he g3
 obtain ⟨a4, e4, _, w4⟩ := DataW.trod_int he g4
 simp only [List.cons.injEq, and_true] at e0 e1 e2 e3 e4
 subst e0 e1 e2 e3 e4
 exact ⟨a0, a1, a2, a3, a4, rfl, w0, w1, w2, w3, w4⟩
end
set_option maxRecDepth 100000
open Go.ChangeShapes Go.WideShapes Go.ChangeAt Go.RowKit Go.Joins Go.Deep
section
variable {H : Type} {enc : TypeId × Value → H} {w : World} {base : Nat} {spare : Nat → Bool} {held : Bool}
theorem task_cells {cs : List Value} {x : DataW H × List MemPlace} {n : Nat} (h : DataW.trod enc Try.prog w base spare held n 89 cs = some x) (hl : cs.length = 7) : ∃ t : T7, cs = t.cs := by
 obtain ⟨xs, k, _, hx, _, hlen, hg⟩ := DataW.trod_struct Try.underlying89 h
 match cs, hl with
 | [c0, c1, c2, c3, c4, c5, c6], _ =>
  match xs, hlen with
  | [y0, y1, y2, y3, y4, y5, y6], _ =>
   have hi : Try.prog.cellsOf 2 = 1 := by kernel_rfl
   have g0 := hg 0 _ rfl
   have g1 := hg 1 _ rfl
   have g2 := hg 2 _ rfl
   have g3 := hg 3 _ rfl
   have g4 := hg 4 _ rfl
   have g5 := hg 5 _ rfl
   have g6 := hg 6 _ rfl
   simp [hi] at g0 g1 g2 g3 g4 g5 g6
   obtain ⟨a0, e0, _, _⟩ := DataW.trod_int Try.underlying2 g0
   obtain ⟨a1, e1, _, _⟩ := DataW.trod_int Try.underlying2 g1
   obtain ⟨a2, e2, _, _⟩ := DataW.trod_int Try.underlying2 g2
   obtain ⟨a3, e3, _, _⟩ := DataW.trod_int Try.underlying2 g3
   obtain ⟨a4, e4, _, _⟩ := DataW.trod_int Try.underlying2 g4
   obtain ⟨a5, e5, _, _⟩ := DataW.trod_int Try.underlying2 g5
   obtain ⟨a6, e6, _, _⟩ := DataW.trod_int Try.underlying2 g6
   simp only [List.cons.injEq, and_true] at e0 e1 e2 e3 e4 e5 e6
   subst e0 e1 e2 e3 e4 e5 e6
   exact ⟨⟨a0, a1, a2, a3, a4, a5, a6⟩, rfl⟩
theorem future_cells {cs : List Value} {x : DataW H × List MemPlace} {n : Nat} (h : DataW.trod enc Try.prog w base spare held n 91 cs = some x) (hl : cs.length = 2) : ∃ t : F2, cs = t.cs := by
 obtain ⟨xs, k, _, hx, _, hlen, hg⟩ := DataW.trod_struct Try.underlying91 h
 match cs, hl with
 | [c0, c1], _ =>
  match xs, hlen with
  | [y0, y1], _ =>
   have hi : Try.prog.cellsOf 2 = 1 := by kernel_rfl
   have hb : Try.prog.cellsOf 4 = 1 := by kernel_rfl
   have g0 := hg 0 _ rfl
   have g1 := hg 1 _ rfl
   simp [hi, hb] at g0 g1
   obtain ⟨a0, e0, _⟩ := DataW.trod_bool Try.underlying4 g0
   obtain ⟨a1, e1, _, _⟩ := DataW.trod_int Try.underlying2 g1
   simp only [List.cons.injEq, and_true] at e0 e1
   subst e0 e1
   exact ⟨⟨a0, a1⟩, rfl⟩
/-- A row whose elements' cells are known by their index. -/
theorem row_of {α : Type} [Inhabited α] {size len : Nat} {a : Addr} {cellsOf : α → List Value} {cells : List α → List Value} (f : Nat → α) (hs : 0 < size)
 (hcells : ∀ l j, (cells l)[j]? = (l[j / size]?).bind (fun t => (cellsOf t)[j % size]?)) (hlen : ∀ l, (cells l).length = l.length * size)
 (h : ∀ i, i < len → ∀ j, j < size → w.cell? ((a.add (i * size)).add j) = (cellsOf (f i))[j]?) : Row w (some a) (cells ((List.range len).map f)) := by
 intro hl
 rw [hlen, List.length_map, List.length_range] at hl
 have hl0 : 0 < len := by rcases Nat.eq_zero_or_pos len with h0 | h0 <;> simp_all
 have hcell : ∀ j u, (cells ((List.range len).map f))[j]? = some u → w.cell? (a.add j) = some u := by
  intro j u hu
  rw [hcells] at hu
  have hj : j / size < len := by
   rcases Nat.lt_or_ge (j / size) len with h1 | h1
   ·exact h1
   ·rw [List.getElem?_eq_none (by simpa using h1)] at hu; cases hu
  rw [List.getElem?_map, List.getElem?_range hj] at hu
  have := h (j / size) hj (j % size) (Nat.mod_lt _ hs)
  rw [add_of_add, show j / size * size + j % size = j from Nat.div_add_mod' j size] at this
  rw [this]; exact hu
 have hpos : 0 < (cells ((List.range len).map f)).length := by rw [hlen, List.length_map, List.length_range]; exact Nat.mul_pos hl0 hs
 have c0 := hcell 0 _ (List.getElem?_eq_getElem hpos)
 obtain ⟨b, off, spot⟩ := a
 have hspot : spot = none := by simpa [Addr.add] using World.cell?_spot c0
 subst hspot
 refine ⟨b, off, rfl, fun j u hu => ?_⟩
 have := hcell j u hu
 rw [show (⟨b, off, none⟩ : Addr).add j = ⟨b, off + j, none⟩ from by unfold Addr.add; split <;> simp_all] at this
 exact this
theorem open_tasks {cs : List Value} {x : DataW H × List MemPlace} {n : Nat} (h : DataW.trod enc Try.prog w base spare held n 24 cs = some x) : ∃ (ts : List T7) (A : Option Addr) (c : Nat), cs = [.slice A ts.length c] ∧ ts.length ≤ maxLen ∧ Row w A (tcells ts) := by
 rcases open_slice Try.underlying24 h with ⟨rfl, _⟩ | ⟨a, len, cap, m, n', D, Pl, rfl, hb, hl, hm, hmm, _, hel⟩
 ·exact ⟨[], none, 0, rfl, by simp, Row.nil⟩
 ·have hc : Try.prog.cellsOf 89 = 7 := by kernel_rfl
  rw [hc] at hel
  have hlm : len ≤ m := by rw [hmm]; split <;> omega
  obtain ⟨f, hf⟩ := choose_lt (α := T7) (n := len) (p := fun i t => ∀ j, j < 7 → w.cell? ((a.add (i * 7)).add j) = t.cs[j]?) (fun i hi => by
   obtain ⟨cs', h1, h2⟩ := hel i (by omega)
   obtain ⟨_, hlen, hcell⟩ := World.cells?_some h1
   obtain ⟨t, rfl⟩ := task_cells h2 hlen
   exact ⟨t, hcell⟩)
  refine ⟨(List.range len).map f, some a, cap, by simp, by simp; omega, row_of (size := 7) f (by omega) tcells_at tcells_length hf⟩
theorem open_futures {cs : List Value} {x : DataW H × List MemPlace} {n : Nat} (h : DataW.trod enc Try.prog w base spare held n 26 cs = some x) : ∃ (fs : List F2) (A : Option Addr) (c : Nat), cs = [.slice A fs.length c] ∧ fs.length ≤ maxLen ∧ Row w A (fcells fs) := by
 rcases open_slice Try.underlying26 h with ⟨rfl, _⟩ | ⟨a, len, cap, m, n', D, Pl, rfl, hb, hl, hm, hmm, _, hel⟩
 ·exact ⟨[], none, 0, rfl, by simp, Row.nil⟩
 ·have hc : Try.prog.cellsOf 91 = 2 := by kernel_rfl
  rw [hc] at hel
  have hlm : len ≤ m := by rw [hmm]; split <;> omega
  obtain ⟨f, hf⟩ := choose_lt (α := F2) (n := len) (p := fun i t => ∀ j, j < 2 → w.cell? ((a.add (i * 2)).add j) = t.cs[j]?) (fun i hi => by
   obtain ⟨cs', h1, h2⟩ := hel i (by omega)
   obtain ⟨_, hlen, hcell⟩ := World.cells?_some h1
   obtain ⟨t, rfl⟩ := future_cells h2 hlen
   exact ⟨t, hcell⟩)
  refine ⟨(List.range len).map f, some a, cap, by simp, by simp; omega, row_of (size := 2) f (by omega) fcells_at fcells_length hf⟩
theorem open_tokens {cs : List Value} {x : DataW H × List MemPlace} {n : Nat} (h : DataW.trod enc Try.prog w base spare held n 25 cs = some x) : ∃ (ks : List Int) (A : Option Addr) (c : Nat), cs = [.slice A ks.length c] ∧ ks.length ≤ maxLen ∧ Row w A (icells ks) := by
 rcases open_ints Try.underlying25 Try.underlying2 (by kernel_rfl) h with ⟨rfl, _⟩ | ⟨a, len, cap, zs, rfl, hb, hl, hm, hz, _, hcell, _⟩
 ·exact ⟨[], none, 0, rfl, by simp, Row.nil⟩
 ·have hlm : len ≤ zs.length := by rw [hz]; split <;> omega
  have hr : Row w (some a) (icells ((List.range len).map fun i => zs.getD i 0)) :=
   row_of (size := 1) (cellsOf := fun z => [Value.int .i64 z]) _ (by omega) (fun l j => by simp [icells, Nat.mod_one, Nat.div_one]; cases l[j]? <;> rfl) (fun l => by simp [icells]) (fun i hi j hj => by
    obtain rfl : j = 0 := by omega
    rw [add_of_add, Nat.mul_one, Nat.add_zero]
    simpa using hcell i (by omega))
  exact ⟨_, some a, cap, by simp, by simp; omega, hr⟩
/-- A pool that came in. -/
theorem open_pool {r : Reach} {b0 : Nat} {v : Value} {d : DataW H} {p : List MemPlace} (hv : Value.okWide Try.prog w r b0 28 v) (h : DataW.Trod enc Try.prog w base spare held 28 v d p) :
 ∃ (ts : List T7) (ks : List Int) (fs : List F2) (A0 A1 A2 : Option Addr) (c0 c1 c2 : Nat) (tn : Int) (st : Bool), v = .agg #[.slice A0 ts.length c0, .slice A1 ks.length c1, .slice A2 fs.length c2, .int .i64 tn, .bool st] ∧
  InPool w ts ks fs A0 A1 A2 ∧ ts.length ≤ 9223372036854775807 ∧ ks.length ≤ 9223372036854775807 ∧ fs.length ≤ 9223372036854775807 ∧ (Lit.int .i64 tn).wf = true := by
 obtain ⟨v0, v1, v2, v3, v4, y0, y1, y2, y3, y4, n, rfl, _, _, g0, g1, g2, g3, g4⟩ := open_agg5 Try.underlying28 (by kernel_rfl) (by kernel_rfl : Try.prog.cellsOf 28 = 5) hv h
 obtain ⟨ts, A0, c0, e0, l0, r0⟩ := open_tasks g0
 obtain ⟨ks, A1, c1, e1, l1, r1⟩ := open_tokens g1
 obtain ⟨fs, A2, c2, e2, l2, r2⟩ := open_futures g2
 obtain ⟨tn, e3, _, w3⟩ := DataW.trod_int Try.underlying2 g3
 obtain ⟨st, e4, _⟩ := DataW.trod_bool Try.underlying4 g4
 simp only [List.cons.injEq, and_true] at e0 e1 e2 e3 e4
 subst e0 e1 e2 e3 e4
 unfold maxLen at l0 l1 l2
 exact ⟨ts, ks, fs, A0, A1, A2, c0, c1, c2, tn, st, rfl, ⟨r0, r1, r2⟩, by omega, by omega, by omega, w3⟩
end
end Go.Proofs.Ytfkdfkoigojciaa
