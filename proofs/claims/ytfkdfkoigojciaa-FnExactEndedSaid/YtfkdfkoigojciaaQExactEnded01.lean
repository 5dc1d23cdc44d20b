/- A right pool in which one task is taken, given back, ended or spawned is right, where a turn is left. No condition. -/
import Derived.Test.YtfkdfkoigojciaaRows
import Derived.WalkKit
import Derived.ProofKit
import Derived.OpenShut
import Derived.Carry
import Derived.Below
import Derived.ChangeOld
import Derived.Lib.SmallJoins
import Derived.Test.YtfkdfkoigojciaaQB03
import Derived.Deep.Slices
import Derived.Test.YtfkdfkoigojciaaQB04
import Derived.Test.YtfkdfkoigojciaaQB09
import Derived.Defers
import Derived.Recover
import Derived.Test.YtfkdfkoigojciaaQB12
import Derived.Test.YtfkdfkoigojciaaQB07
import Derived.Test.YtfkdfkoigojciaaQB13
import Derived.Test.YtfkdfkoigojciaaQB10
import Derived.Deep.DeepCutAuto
import Derived.Deep.CutRange
import Derived.Test.YtfkdfkoigojciaaQB08
import Derived.Test.YtfkdfkoigojciaaQB15

namespace Go.Proofs.Ytfkdfkoigojciaa
open Go.RowKit
set_option linter.unusedVariables false
open Go.ChangeShapes Go.WideShapes Go.ChangeAt Go.RowKit Go.Joins Go.Deep
theorem own : ownKnob Try.prog.godebug = none := by kernel_rfl
theorem laidOut : laidOutB Try.prog = true := by kernel_rfl
section
variable {H : Type} {enc : TypeId × Value → H} {P : Program} {w : World} {base : Nat} {spare : Nat → Bool} {held : Bool}
theorem open_agg5 {r : Reach} {b0 : Nat} {t : TypeId} {f0 f1 f2 f3 f4 : Field} {v : Value} {d : DataW H} {p : List MemPlace} (hs : P.underlying t = some (.struct #[f0, f1, f2, f3, f4])) (hone : oneCellFields P #[f0, f1, f2, f3, f4] = true) (hC : P.cellsOf t = 5)
 (hv : Value.okWide P w r b0 t v) (h : DataW.Trod enc P w base spare held t v d p) :
 ∃ (v0 v1 v2 v3 v4 : Value) (y0 y1 y2 y3 y4 : DataW H × List MemPlace) (n : Nat), v = .agg #[v0, v1, v2, v3, v4] ∧ d = .agg [y0.1, y1.1, y2.1, y3.1, y4.1] ∧ p = y0.2 ++ (y1.2 ++ (y2.2 ++ (y3.2 ++ y4.2))) ∧
  DataW.trod enc P w base spare held n f0.type [v0] = some y0 ∧ DataW.trod enc P w base spare held n f1.type [v1] = some y1 ∧ DataW.trod enc P w base spare held n f2.type [v2] = some y2 ∧ DataW.trod enc P w base spare held n f3.type [v3] = some y3 ∧ DataW.trod enc P w base spare held n f4.type [v4] = some y4 := by
 obtain ⟨cs, rfl, hsz⟩ := okWide_struct hs hv
 obtain ⟨l⟩ := cs
 match l, hsz.trans hC with
 | [c0, c1, c2, c3, c4], _ =>
  obtain ⟨fuel, hf⟩ := h
  obtain ⟨xs, n, _, hx, _, hlen, hg⟩ := DataW.trod_struct hs hf
  obtain ⟨o0, k0⟩ := hone_of hone 0 f0 rfl
  obtain ⟨o1, k1⟩ := hone_of hone 1 f1 rfl
  obtain ⟨o2, k2⟩ := hone_of hone 2 f2 rfl
  obtain ⟨o3, k3⟩ := hone_of hone 3 f3 rfl
  obtain ⟨o4, k4⟩ := hone_of hone 4 f4 rfl
  match xs, hlen with
  | [y0, y1, y2, y3, y4], _ =>
   simp only [Prod.mk.injEq] at hx
   exact ⟨c0, c1, c2, c3, c4, y0, y1, y2, y3, y4, n, rfl, by simpa using hx.1, by simpa using hx.2, by simpa [Value.cells, o0, k0] using hg 0 f0 rfl, by simpa [Value.cells, o1, k1] using hg 1 f1 rfl, by simpa [Value.cells, o2, k2] using hg 2 f2 rfl, by simpa [Value.cells, o3, k3] using hg 3 f3 rfl, by simpa [Value.cells, o4, k4] using hg 4 f4 rfl⟩
/-- Five fields that are all int64: the value is written out. -/
theorem ints5 {r : Reach} {b0 : Nat} {t e : TypeId} {f0 f1 f2 f3 f4 : Field} {v : Value} {d : DataW H} {p : List MemPlace} (hs : P.underlying t = some (.struct #[f0, f1, f2, f3, f4])) (hone : oneCellFields P #[f0, f1, f2, f3, f4] = true) (hC : P.cellsOf t = 5)
 (he : P.underlying e = some (.int .i64)) (h0 : f0.type = e) (h1 : f1.type = e) (h2 : f2.type = e) (h3 : f3.type = e) (h4 : f4.type = e)
 (hv : Value.okWide P w r b0 t v) (h : DataW.Trod enc P w base spare held t v d p) :
 ∃ a0 a1 a2 a3 a4 : Int, v = .agg #[.int .i64 a0, .int .i64 a1, .int .i64 a2, .int .i64 a3, .int .i64 a4] ∧ (Lit.int .i64 a0).wf = true ∧ (Lit.int .i64 a1).wf = true ∧ (Lit.int .i64 a2).wf = true ∧ (Lit.int .i64 a3).wf = true ∧ (Lit.int .i64 a4).wf = true := by
 obtain ⟨v0, v1, v2, v3, v4, y0, y1, y2, y3, y4, n, rfl, _, _, g0, g1, g2, g3, g4⟩ := open_agg5 hs hone hC hv h
 rw [h0] at g0; rw [h1] at g1; rw [h2] at g2; rw [h3] at g3; rw [h4] at g4
 obtain ⟨a0, e0, _, w0⟩ := DataW.trod_int he g0
 obtain ⟨a1, e1, _, w1⟩ := DataW.trod_int he g1
 obtain ⟨a2, e2, _, w2⟩ := DataW.trod_int he g2
 obtain ⟨a3, e3, _, w3⟩ := DataW.trod_int he g3
 obtain ⟨a4, e4, _, w4⟩ := DataW.trod_int he g4
 simp only [List.cons.injEq, and_true] at e0 e1 e2 e3 e4
 subst e0 e1 e2 e3 e4
 exact ⟨a0, a1, a2, a3, a4, rfl, w0, w1, w2, w3, w4⟩
end
set_option maxRecDepth 100000
open Go.ChangeShapes Go.WideShapes Go.ChangeAt Go.RowKit Go.Joins Go.Deep
section
variable {H : Type} {enc : TypeId × Value → H} {w : World} {base : Nat} {spare : Nat → Bool} {held : Bool}
theorem task_cells {cs : List Value} {x : DataW H × List MemPlace} {n : Nat} (h : DataW.trod enc Try.prog w base spare held n 89 cs = some x) (hl : cs.length = 7) : ∃ t : T7, cs = t.cs := by
 obtain ⟨xs, k, _, hx, _, hlen, hg⟩ := DataW.trod_struct Try.underlying89 h
 match cs, hl with
 | [c0, c1, c2, c3, c4, c5, c6], _ =>
  match xs, hlen with
  | [y0, y1, y2, y3, y4, y5, y6], _ =>
   have hi : Try.prog.cellsOf 2 = 1 := by kernel_rfl
   have g0 := hg 0 _ rfl
   have g1 := hg 1 _ rfl
   have g2 := hg 2 _ rfl
   have g3 := hg 3 _ rfl
   have g4 := hg 4 _ rfl
   have g5 := hg 5 _ rfl
   have g6 := hg 6 _ rfl
   simp [hi] at g0 g1 g2 g3 g4 g5 g6
   obtain ⟨a0, e0, _, _⟩ := DataW.trod_int Try.underlying2 g0
   obtain ⟨a1, e1, _, _⟩ := DataW.trod_int Try.underlying2 g1
   obtain ⟨a2, e2, _, _⟩ := DataW.trod_int Try.underlying2 g2
   obtain ⟨a3, e3, _, _⟩ := DataW.trod_int Try.underlying2 g3
   obtain ⟨a4, e4, _, _⟩ := DataW.trod_int Try.underlying2 g4
   obtain ⟨a5, e5, _, _⟩ := DataW.trod_int Try.underlying2 g5
   obtain ⟨a6, e6, _, _⟩ := DataW.trod_int Try.underlying2 g6
   simp only [List.cons.injEq, and_true] at e0 e1 e2 e3 e4 e5 e6
   subst e0 e1 e2 e3 e4 e5 e6
   exact ⟨⟨a0, a1, a2, a3, a4, a5, a6⟩, rfl⟩
theorem future_cells {cs : List Value} {x : DataW H × List MemPlace} {n : Nat} (h : DataW.trod enc Try.prog w base spare held n 91 cs = some x) (hl : cs.length = 2) : ∃ t : F2, cs = t.cs := by
 obtain ⟨xs, k, _, hx, _, hlen, hg⟩ := DataW.trod_struct Try.underlying91 h
 match cs, hl with
 | [c0, c1], _ =>
  match xs, hlen with
  | [y0, y1], _ =>
   have hi : Try.prog.cellsOf 2 = 1 := by kernel_rfl
   have hb : Try.prog.cellsOf 4 = 1 := by kernel_rfl
   have g0 := hg 0 _ rfl
   have g1 := hg 1 _ rfl
   simp [hi, hb] at g0 g1
   obtain ⟨a0, e0, _⟩ := DataW.trod_bool Try.underlying4 g0
   obtain ⟨a1, e1, _, _⟩ := DataW.trod_int Try.underlying2 g1
   simp only [List.cons.injEq, and_true] at e0 e1
   subst e0 e1
   exact ⟨⟨a0, a1⟩, rfl⟩
/-- A row whose elements' cells are known by their index. -/
theorem row_of {α : Type} [Inhabited α] {size len : Nat} {a : Addr} {cellsOf : α → List Value} {cells : List α → List Value} (f : Nat → α) (hs : 0 < size)
 (hcells : ∀ l j, (cells l)[j]? = (l[j / size]?).bind (fun t => (cellsOf t)[j % size]?)) (hlen : ∀ l, (cells l).length = l.length * size)
 (h : ∀ i, i < len → ∀ j, j < size → w.cell? ((a.add (i * size)).add j) = (cellsOf (f i))[j]?) : Row w (some a) (cells ((List.range len).map f)) := by
 intro hl
 rw [hlen, List.length_map, List.length_range] at hl
 have hl0 : 0 < len := by rcases Nat.eq_zero_or_pos len with h0 | h0 <;> simp_all
 have hcell : ∀ j u, (cells ((List.range len).map f))[j]? = some u → w.cell? (a.add j) = some u := by
  intro j u hu
  rw [hcells] at hu
  have hj : j / size < len := by
   rcases Nat.lt_or_ge (j / size) len with h1 | h1
   ·exact h1
   ·rw [List.getElem?_eq_none (by simpa using h1)] at hu; cases hu
  rw [List.getElem?_map, List.getElem?_range hj] at hu
  have := h (j / size) hj (j % size) (Nat.mod_lt _ hs)
  rw [add_of_add, show j / size * size + j % size = j from Nat.div_add_mod' j size] at this
  rw [this]; exact hu
 have hpos : 0 < (cells ((List.range len).map f)).length := by rw [hlen, List.length_map, List.length_range]; exact Nat.mul_pos hl0 hs
 have c0 := hcell 0 _ (List.getElem?_eq_getElem hpos)
 obtain ⟨b, off, spot⟩ := a
 have hspot : spot = none := by simpa [Addr.add] using World.cell?_spot c0
 subst hspot
 refine ⟨b, off, rfl, fun j u hu => ?_⟩
 have := hcell j u hu
 rw [show (⟨b, off, none⟩ : Addr).add j = ⟨b, off + j, none⟩ from by unfold Addr.add; split <;> simp_all] at this
 exact this
theorem open_tasks {cs : List Value} {x : DataW H × List MemPlace} {n : Nat} (h : DataW.trod enc Try.prog w base spare held n 24 cs = some x) : ∃ (ts : List T7) (A : Option Addr) (c : Nat), cs = [.slice A ts.length c] ∧ ts.length ≤ maxLen ∧ Row w A (tcells ts) := by
 rcases open_slice Try.underlying24 h with ⟨rfl, _⟩ | ⟨a, len, cap, m, n', D, Pl, rfl, hb, hl, hm, hmm, _, hel⟩
 ·exact ⟨[], none, 0, rfl, by simp, Row.nil⟩
 ·have hc : Try.prog.cellsOf 89 = 7 := by kernel_rfl
  rw [hc] at hel
  have hlm : len ≤ m := by rw [hmm]; split <;> omega
  obtain ⟨f, hf⟩ := choose_lt (α := T7) (n := len) (p := fun i t => ∀ j, j < 7 → w.cell? ((a.add (i * 7)).add j) = t.cs[j]?) (fun i hi => by
   obtain ⟨cs', h1, h2⟩ := hel i (by omega)
   obtain ⟨_, hlen, hcell⟩ := World.cells?_some h1
   obtain ⟨t, rfl⟩ := task_cells h2 hlen
   exact ⟨t, hcell⟩)
  refine ⟨(List.range len).map f, some a, cap, by simp, by simp; omega, row_of (size := 7) f (by omega) tcells_at tcells_length hf⟩
theorem open_futures {cs : List Value} {x : DataW H × List MemPlace} {n : Nat} (h : DataW.trod enc Try.prog w base spare held n 26 cs = some x) : ∃ (fs : List F2) (A : Option Addr) (c : Nat), cs = [.slice A fs.length c] ∧ fs.length ≤ maxLen ∧ Row w A (fcells fs) := by
 rcases open_slice Try.underlying26 h with ⟨rfl, _⟩ | ⟨a, len, cap, m, n', D, Pl, rfl, hb, hl, hm, hmm, _, hel⟩
 ·exact ⟨[], none, 0, rfl, by simp, Row.nil⟩
 ·have hc : Try.prog.cellsOf 91 = 2 := by kernel_rfl
  rw [hc] at hel
  have hlm : len ≤ m := by rw [hmm]; split <;> omega
  obtain ⟨f, hf⟩ := choose_lt (α := F2) (n := len) (p := fun i t => ∀ j, j < 2 → w.cell? ((a.add (i * 2)).add j) = t.cs[j]?) (fun i hi => by
   obtain ⟨cs', h1, h2⟩ := hel i (by omega)
   obtain ⟨_, hlen, hcell⟩ := World.cells?_some h1
   obtain ⟨t, rfl⟩ := future_cells h2 hlen
   exact ⟨t, hcell⟩)
  refine ⟨(List.range len).map f, some a, cap, by simp, by simp; omega, row_of (size := 2) f (by omega) fcells_at fcells_length hf⟩
theorem open_tokens {cs : List Value} {x : DataW H × List MemPlace} {n : Nat} (h : DataW.trod enc Try.prog w base spare held n 25 cs = some x) : ∃ (ks : List Int) (A : Option Addr) (c : Nat), cs = [.slice A ks.length c] ∧ ks.length ≤ maxLen ∧ Row w A (icells ks) := by
 rcases open_ints Try.underlying25 Try.underlying2 (by kernel_rfl) h with ⟨rfl, _⟩ | ⟨a, len, cap, zs, rfl, hb, hl, hm, hz, _, hcell, _⟩
 ·exact ⟨[], none, 0, rfl, by simp, Row.nil⟩
 ·have hlm : len ≤ zs.length := by rw [hz]; split <;> omega
  have hr : Row w (some a) (icells ((List.range len).map fun i => zs.getD i 0)) :=
   row_of (size := 1) (cellsOf := fun z => [Value.int .i64 z]) _ (by omega) (fun l j => by simp [icells, Nat.mod_one, Nat.div_one]; cases l[j]? <;> rfl) (fun l => by simp [icells]) (fun i hi j hj => by
    obtain rfl : j = 0 := by omega
    rw [add_of_add, Nat.mul_one, Nat.add_zero]
    simpa using hcell i (by omega))
  exact ⟨_, some a, cap, by simp, by simp; omega, hr⟩
/-- A pool that came in. -/
theorem open_pool {r : Reach} {b0 : Nat} {v : Value} {d : DataW H} {p : List MemPlace} (hv : Value.okWide Try.prog w r b0 28 v) (h : DataW.Trod enc Try.prog w base spare held 28 v d p) :
 ∃ (ts : List T7) (ks : List Int) (fs : List F2) (A0 A1 A2 : Option Addr) (c0 c1 c2 : Nat) (tn : Int) (st : Bool), v = .agg #[.slice A0 ts.length c0, .slice A1 ks.length c1, .slice A2 fs.length c2, .int .i64 tn, .bool st] ∧
  InPool w ts ks fs A0 A1 A2 ∧ ts.length ≤ 9223372036854775807 ∧ ks.length ≤ 9223372036854775807 ∧ fs.length ≤ 9223372036854775807 ∧ (Lit.int .i64 tn).wf = true := by
 obtain ⟨v0, v1, v2, v3, v4, y0, y1, y2, y3, y4, n, rfl, _, _, g0, g1, g2, g3, g4⟩ := open_agg5 Try.underlying28 (by kernel_rfl) (by kernel_rfl : Try.prog.cellsOf 28 = 5) hv h
 obtain ⟨ts, A0, c0, e0, l0, r0⟩ := open_tasks g0
 obtain ⟨ks, A1, c1, e1, l1, r1⟩ := open_tokens g1
 obtain ⟨fs, A2, c2, e2, l2, r2⟩ := open_futures g2
 obtain ⟨tn, e3, _, w3⟩ := DataW.trod_int Try.underlying2 g3
 obtain ⟨st, e4, _⟩ := DataW.trod_bool Try.underlying4 g4
 simp only [List.cons.injEq, and_true] at e0 e1 e2 e3 e4
 subst e0 e1 e2 e3 e4
 unfold maxLen at l0 l1 l2
 exact ⟨ts, ks, fs, A0, A1, A2, c0, c1, c2, tn, st, rfl, ⟨r0, r1, r2⟩, by omega, by omega, by omega, w3⟩
end
theorem Sep.rot {S : List Nat} {w W : World} {r : Res} {rs : List Res} (h : Sep S w W (r :: rs)) : Sep S w W (rs ++ [r]) := h.perm (List.perm_append_comm (l₁ := [r]) (l₂ := rs))
/-- A pool and an answer, part by part. -/
def GaveA (us : List T7) (ks : List Int) (fs : List F2) (tn : Int) (st : Bool) (rp ou : Int) (w : World) (r : Ending) (w' : World) : Prop :=
 ∃ (B0 B1 B2 : Option Addr) (d0 d1 d2 : Nat), r = .returned (.tuple #[.agg #[.slice B0 us.length d0, .slice B1 ks.length d1, .slice B2 fs.length d2, .int .i64 tn, .bool st], .agg #[.int .i64 rp, .int .i64 ou]]) ∧ Sep [] w w' [rT us.length B0 d0 us, rK ks.length B1 d1 ks, rF fs.length B2 d2 fs]
set_option maxRecDepth 100000
set_option maxHeartbeats 400000 in
theorem giveUp_no (rp : Int) (w : World) :
 Calls Try.prog 77 #[.bool false, .int .i64 rp] w fun r w' => r = .returned (.tuple #[]) ∧ w = w' := by
 go_enter Try.func77, Try.ntmps77
 go_wp2_with fail
 refine bodyPost_end (results_none rfl _ _ _) rfl ?_
 exact ⟨rfl, rfl⟩
set_option maxHeartbeats 400000 in
theorem giveUp_yes (rp : Int) (w : World) :
 Calls Try.prog 77 #[.bool true, .int .i64 rp] w fun r w' => r = .panicked [{ v := .iface 102 (.int .i64 rp), recovered := false }] ∧ w' = w := by
 go_enter Try.func77, Try.ntmps77
 go_wp2_with fail
 exact ⟨rfl, rfl, rfl⟩
theorem assert_refusal (rp : Int) (w : World) : Sem.run Try.prog (Instr.typeAssert (.iface 102 (.int .i64 rp)) 20 102 true) w = .ok (.tuple #[.int .i64 rp, .bool true]) w := by kernel_rfl
theorem assert_nil (w : World) : Sem.run Try.prog (Instr.typeAssert .nilIface 20 102 true) w = .ok (.tuple #[.int .i64 0, .bool false]) w := by kernel_rfl
set_option maxHeartbeats 400000 in
theorem catch_idle (x r s : Addr) (w : World) :
 CallsD Try.prog 76 #[.pointer (some x), .pointer (some r), .pointer (some s)] .returning w fun e u' w' => e = .returned (.tuple #[]) ∧ u' = .returning ∧ w' = w := by
 have hn := assert_nil
 refine callsD_of_wpS Try.func76 rfl fun c₀ cs hu => ?_
 apply wpS_seq
 apply wpS_region
 simp [wpOpsS, go_sem, recoverD, hu, Try.ntmps76, Exit.thenS, hn]
 refine wpS_of_wp ?_
 go_wp2_with fail
 cases c₀
 simp only at hu
 subst hu
 exact ⟨rfl, _, rfl, _, results_none rfl _ _ _, rfl, rfl, rfl⟩
set_option maxHeartbeats 400000 in
theorem catch_panic (ts : List T7) (ks : List Int) (fs : List F2) (A0 A1 A2 : Option Addr) (c0 c1 c2 : Nat) (tn : Int) (st : Bool) (g gr gs : Nat) (rp : Int) (older : List PanicEntry) (w : World) (ht : ts.length ≤ 1048576) (hk : ks.length ≤ 1048576) (hf : fs.length ≤ 1048576) (hg : Blk w g 33 #[.slice A0 ts.length c0, .slice A1 ks.length c1, .slice A2 fs.length c2, .int .i64 tn, .bool st]) (h : InPool w ts ks fs A0 A1 A2) (hM : Sep (fps [.blk gr 33 #[.slice none 0 0, .slice none 0 0, .slice none 0 0, .int .i64 0, .bool false], .blk gs 47 #[.int .i64 0, .int .i64 0]]) w w [.blk gr 33 #[.slice none 0 0, .slice none 0 0, .slice none 0 0, .int .i64 0, .bool false], .blk gs 47 #[.int .i64 0, .int .i64 0]]) :
 CallsD Try.prog 76 #[.pointer (some ⟨g, 0, none⟩), .pointer (some ⟨gr, 0, none⟩), .pointer (some ⟨gs, 0, none⟩)] (.panicking ({ v := .iface 102 (.int .i64 rp), recovered := false } :: older)) w fun e u' w' => e = .returned (.tuple #[]) ∧ u' = .panicking ({ v := .iface 102 (.int .i64 rp), recovered := true } :: older) ∧ ∃ (B0 B1 B2 : Option Addr) (d0 d1 d2 : Nat), Sep (fps [.blk gr 33 #[.slice none 0 0, .slice none 0 0, .slice none 0 0, .int .i64 0, .bool false], .blk gs 47 #[.int .i64 0, .int .i64 0]]) w w' [rT ts.length B0 d0 ts, rK ks.length B1 d1 ks, rF fs.length B2 d2 fs, .blk gr 33 #[.slice B0 ts.length d0, .slice B1 ks.length d1, .slice B2 fs.length d2, .int .i64 tn, .bool st], .blk gs 47 #[.int .i64 rp, .int .i64 0]] := by
 have hn := assert_refusal
 have H := hide (⟨hg, h, hM⟩ : _ ∧ _ ∧ _)
 clear hg h hM
 refine callsD_of_wpS Try.func76 rfl fun c₀ cs hu => ?_
 simp only [Try.ntmps76, List.size_toArray, List.length_cons, List.length_nil, Nat.reduceAdd, Nat.reduceSub, Array.replicate_succ, Array.replicate_zero, List.push_toArray, List.append_toArray, List.nil_append, List.cons_append]
 apply wpS_seq
 apply wpS_region
 simp [wpOpsS, go_sem, recoverD, hu, Exit.thenS, hn]
 refine wpS_of_wp ?_
 generalize hQ : (fun (e : Exit) (a' : Act) (w' : World) => bodyPostS _ _ _ _ _ e a' _ w') = Q
 have HQ := hide hQ
 clear hQ hu
 go_wp2_with fail
 go_call (copied_s ts ks fs A0 A1 A2 c0 c1 c2 tn st g _ ht hk hf H.out.1 H.out.2.1) as r W1 ⟨B0, B1, B2, d0, d1, d2, rfl, g1⟩
 have M := Sep.new H.out.2.2 g1
 simp only [List.cons_append, List.nil_append] at M
 clear g1 hn
 obtain ⟨tR, Ag, Al, Ac, Ae, Ah, Am, Ab, An, Ad, Aa⟩ := M.f5 3 rfl
 obtain ⟨tS, Ai, Af, Aj, Ak⟩ := M.f2 4 rfl
 have nRS := M.ne 3 4 (by omega) rfl rfl rfl rfl
 go_wp2_with fail
 clear tR Ag Al Ac Ae Ah Am Ab An Ad Aa tS Ai Af Aj Ak nRS
 have N := M.gset5 3 rfl (.slice B0 ts.length d0) (.slice B1 ks.length d1) (.slice B2 fs.length d2) (.int .i64 tn) (.bool st)
 clear M
 obtain ⟨W2, eW, M⟩ := N
 rw [eW]
 clear eW
 simp only [List.set_cons_zero, List.set_cons_succ] at M
 have N := M.gset2 4 rfl (.int .i64 rp) (.int .i64 0)
 clear M
 obtain ⟨W3, eW, M⟩ := N
 rw [eW]
 clear eW
 simp only [List.set_cons_zero, List.set_cons_succ] at M
 have hQ := HQ.out
 rw [← hQ]
 exact ⟨rfl, _, rfl, _, results_none rfl _ _ _, rfl, rfl, B0, B1, B2, d0, d1, d2, M⟩
set_option maxRecDepth 100000
theorem Sep.newB {w W : World} {ps rs : List Res} (h : Sep [] w W (ps ++ rs)) : ∀ q ∈ fps ps, w.heap.size ≤ q := fun q hq => by
 obtain ⟨r, hr, hg⟩ := mem_fps.1 hq
 exact (h.own r (List.mem_append_left _ hr) q hg).resolve_left (by simp)
theorem wp_noPanic {P : Program} {c : Code} {K : Act → World → Prop} {Q : Exit → Act → World → Prop} {a : Act} {w : World} (h : c.wp P (Exit.then K (fun _ _ _ => False)) a w) : c.wp P (Exit.then K Q) a w :=
 wp_mono h fun e a w h => by cases e <;> first | exact h | exact h.elim
set_option maxHeartbeats 800000 in
theorem lived_bad (a b c d e : Int) (ts : List T7) (ks : List Int) (fs : List F2) (A0 A1 A2 : Option Addr) (c0 c1 c2 : Nat) (tn : Int) (st : Bool) (wk : Int) (G : FuncId) (cap : Array Value) (hG : ∀ args w, (callFunc G args).run Try.prog w = .ok (.enter G args) w) (w : World) (ht : ts.length ≤ 1048576) (hk : ks.length ≤ 1048576) (hf : fs.length ≤ 1048576) (h : InPool w ts ks fs A0 A1 A2) (hp : poolB a b c d e ts ks fs tn = false) :
 Calls Try.prog 54 #[.agg #[.int .i64 a, .int .i64 b, .int .i64 c, .int .i64 d, .int .i64 e], .agg #[.slice A0 ts.length c0, .slice A1 ks.length c1, .slice A2 fs.length c2, .int .i64 tn, .bool st], .int .i64 wk, .func (.func G) #[] cap] w (GaveS [] w ⟨[], [], [], 0, false, 8, 0⟩) := by
 have hmf : ∀ (fn : Fn) (first cap : Array Value) (w : World), (Instr.makeFunc fn first cap).run Try.prog w = .ok (.func fn first cap) w := fun _ _ _ _ => rfl
 have HY := hide (⟨hp, trivial⟩ : _ ∧ True)
 clear hp
 have H := hide h
 clear h
 go_enter_defers Try.func54, Try.ntmps54
 go_wp2_with fail
 generalize hW : (((w.alloc _).alloc _).alloc _).alloc _ = W1
 have M := Sep.e4 hW
 clear hW
 obtain ⟨tS, Ab, Ai, Aa, Ah⟩ := M.f2 0 rfl
 obtain ⟨tR, Ae, Am, Ad, Aj, Ag, Ak, Ac, An, Af, Al⟩ := M.f5 1 rfl
 obtain ⟨tX, Bf, Ax, As, Aq, Ao, Aw, Be, Bg, Bb, Bd⟩ := M.f5 2 rfl
 obtain ⟨tP, Bh, Au, Ay, Ba, Ap, Av, Bc, Az, At, Ar⟩ := M.f5 3 rfl
 go_wp2_with fail
 go_call (pright_v a b c d e ts ks fs A0 A1 A2 c0 c1 c2 tn st _ false HY.out.1 _ hk hf (M.blk 2 rfl) (H.out.below M.below)) as r W2 ⟨rfl, g1⟩
 clear tS Ab Ai Aa Ah tR Ae Am Ad Aj Ag Ak Ac An Af Al tX Bf Ax As Aq Ao Aw Be Bg Bb Bd tP Bh Au Ay Ba Ap Av Bc Az At Ar
 replace M := M.call g1
 clear g1
 obtain ⟨tS, Ab, Ai, Aa, Ah⟩ := M.f2 0 rfl
 obtain ⟨tR, Ae, Am, Ad, Aj, Ag, Ak, Ac, An, Af, Al⟩ := M.f5 1 rfl
 obtain ⟨tX, Bf, Ax, As, Aq, Ao, Aw, Be, Bg, Bb, Bd⟩ := M.f5 2 rfl
 obtain ⟨tP, Bh, Au, Ay, Ba, Ap, Av, Bc, Az, At, Ar⟩ := M.f5 3 rfl
 go_wp2_with fail
 clear tS Ab Ai Aa Ah tR Ae Am Ad Aj Ag Ak Ac An Af Al tX Bf Ax As Aq Ao Aw Be Bg Bb Bd tP Bh Au Ay Ba Ap Av Bc Az At Ar
 have N := M.gset5 1 rfl (.slice none 0 0) (.slice none 0 0) (.slice none 0 0) (.int .i64 0) (.bool false)
 clear M
 obtain ⟨W3, eW, M⟩ := N
 rw [eW]
 clear eW
 simp only [List.set_cons_zero, List.set_cons_succ] at M
 have N := M.gset2 0 rfl (.int .i64 8) (.int .i64 0)
 clear M
 obtain ⟨W4, eW, M⟩ := N
 rw [eW]
 clear eW
 simp only [List.set_cons_zero] at M
 obtain ⟨tS, Ab, Aa⟩ := M.q2 0 rfl
 obtain ⟨tR, Ae, Ad, Ag, Ac, Af⟩ := M.q5 1 rfl
 exact ⟨.tuple #[.agg #[.slice none 0 0, .slice none 0 0, .slice none 0 0, .int .i64 0, .bool false], .agg #[.int .i64 8, .int .i64 0]], by simp [results, Try.results54, go_sem, Ae, Ad, Ag, Ac, Af, Ab, Aa], none, none, none, 0, 0, 0, rfl, sep_zero M.below⟩
set_option maxHeartbeats 800000 in
theorem lived_worker (a b c d e : Int) (ts : List T7) (ks : List Int) (fs : List F2) (A0 A1 A2 : Option Addr) (c0 c1 c2 : Nat) (tn : Int) (st : Bool) (wk : Int) (G : FuncId) (cap : Array Value) (hG : ∀ args w, (callFunc G args).run Try.prog w = .ok (.enter G args) w) (w : World) (ht : ts.length ≤ 1048576) (hk : ks.length ≤ 1048576) (hf : fs.length ≤ 1048576) (h : InPool w ts ks fs A0 A1 A2) (hp : poolB a b c d e ts ks fs tn = true) (hw : btw wk 0 (a - 1) = false) :
 Calls Try.prog 54 #[.agg #[.int .i64 a, .int .i64 b, .int .i64 c, .int .i64 d, .int .i64 e], .agg #[.slice A0 ts.length c0, .slice A1 ks.length c1, .slice A2 fs.length c2, .int .i64 tn, .bool st], .int .i64 wk, .func (.func G) #[] cap] w (GaveS [] w ⟨ts, ks, fs, tn, st, 8, 0⟩) := by
 have hmf : ∀ (fn : Fn) (first cap : Array Value) (w : World), (Instr.makeFunc fn first cap).run Try.prog w = .ok (.func fn first cap) w := fun _ _ _ _ => rfl
 have hpl : 1 ≤ a ∧ a ≤ 30 := by
  have h1 := (poolB_parts hp).1
  simp [planB, btw] at h1
  omega
 obtain ⟨pl1, pl2⟩ := hpl
 have HY := hide (⟨hp, hw, trivial⟩ : _ ∧ _ ∧ True)
 clear hp hw
 have H := hide h
 clear h
 go_enter_defers Try.func54, Try.ntmps54
 go_wp2_with fail
 generalize hW : (((w.alloc _).alloc _).alloc _).alloc _ = W1
 have M := Sep.e4 hW
 clear hW
 obtain ⟨tS, Ab, Ai, Aa, Ah⟩ := M.f2 0 rfl
 obtain ⟨tR, Ae, Am, Ad, Aj, Ag, Ak, Ac, An, Af, Al⟩ := M.f5 1 rfl
 obtain ⟨tX, Bf, Ax, As, Aq, Ao, Aw, Be, Bg, Bb, Bd⟩ := M.f5 2 rfl
 obtain ⟨tP, Bh, Au, Ay, Ba, Ap, Av, Bc, Az, At, Ar⟩ := M.f5 3 rfl
 go_wp2_with fail
 go_call (pright_v a b c d e ts ks fs A0 A1 A2 c0 c1 c2 tn st _ true HY.out.1 _ hk hf (M.blk 2 rfl) (H.out.below M.below)) as r W2 ⟨rfl, g1⟩
 clear tS Ab Ai Aa Ah tR Ae Am Ad Aj Ag Ak Ac An Af Al tX Bf Ax As Aq Ao Aw Be Bg Bb Bd tP Bh Au Ay Ba Ap Av Bc Az At Ar
 replace M := M.call g1
 clear g1
 obtain ⟨tS, Ab, Ai, Aa, Ah⟩ := M.f2 0 rfl
 obtain ⟨tR, Ae, Am, Ad, Aj, Ag, Ak, Ac, An, Af, Al⟩ := M.f5 1 rfl
 obtain ⟨tX, Bf, Ax, As, Aq, Ao, Aw, Be, Bg, Bb, Bd⟩ := M.f5 2 rfl
 obtain ⟨tP, Bh, Au, Ay, Ba, Ap, Av, Bc, Az, At, Ar⟩ := M.f5 3 rfl
 go_wp2_with fail
 have hW := hasWorker_any a b c d e wk W2 pl1 pl2
 rw [HY.out.2.1] at hW
 refine Calls.mono (by with_reducible exact hW) ?_
 clear hW
 rintro r W3 ⟨rfl, g1⟩
 clear tS Ab Ai Aa Ah tR Ae Am Ad Aj Ag Ak Ac An Af Al tX Bf Ax As Aq Ao Aw Be Bg Bb Bd tP Bh Au Ay Ba Ap Av Bc Az At Ar
 replace M := M.call g1
 clear g1
 obtain ⟨tS, Ab, Ai, Aa, Ah⟩ := M.f2 0 rfl
 obtain ⟨tR, Ae, Am, Ad, Aj, Ag, Ak, Ac, An, Af, Al⟩ := M.f5 1 rfl
 obtain ⟨tX, Bf, Ax, As, Aq, Ao, Aw, Be, Bg, Bb, Bd⟩ := M.f5 2 rfl
 obtain ⟨tP, Bh, Au, Ay, Ba, Ap, Av, Bc, Az, At, Ar⟩ := M.f5 3 rfl
 go_wp2_with fail
 go_call (giveUp_yes 8 _) as r W ⟨rfl, rfl⟩
 clear tS Ab Ai Aa Ah tR Ae Am Ad Aj Ag Ak Ac An Af Al tX Bf Ax As Aq Ao Aw Be Bg Bb Bd tP Bh Au Ay Ba Ap Av Bc Az At Ar
 go_wp2_with fail
 replace M := M.front 1 rfl
 simp only [List.eraseIdx_cons_succ, List.eraseIdx_cons_zero] at M
 refine leaves_cons (f := 76) (args := #[.pointer (some ⟨w.heap.size + 1, 0, none⟩), .pointer (some ⟨w.heap.size + 2, 0, none⟩), .pointer (some ⟨w.heap.size + 3, 0, none⟩)]) (by simp) (by simp [go_sem]) ?_
 refine (catch_panic ts ks fs A0 A1 A2 c0 c1 c2 tn st _ _ _ 8 [] _ ht hk hf (M.blk 2 rfl) (H.out.below M.below) (Sep.same (ps := [.blk (w.heap.size + 2) 33 #[.slice none 0 0, .slice none 0 0, .slice none 0 0, .int .i64 0, .bool false], .blk (w.heap.size + 3) 47 #[.int .i64 0, .int .i64 0]]) (rs := [.blk (w.heap.size + 1) 33 #[.slice A0 ts.length c0, .slice A1 ks.length c1, .slice A2 fs.length c2, .int .i64 tn, .bool st], .blk (w.heap.size) 36 #[.int .i64 a, .int .i64 b, .int .i64 c, .int .i64 d, .int .i64 e]]) M (Below.refl _ _))).mono ?_
 rintro r u W4 ⟨rfl, rfl, B0, B1, B2, d0, d1, d2, g1⟩
 replace M : Sep [] w W4 [rT ts.length B0 d0 ts, rK ks.length B1 d1 ks, rF fs.length B2 d2 fs, .blk (w.heap.size + 2) 33 #[.slice B0 ts.length d0, .slice B1 ks.length d1, .slice B2 fs.length d2, .int .i64 tn, .bool st], .blk (w.heap.size + 3) 47 #[.int .i64 8, .int .i64 0], .blk (w.heap.size + 1) 33 #[.slice A0 ts.length c0, .slice A1 ks.length c1, .slice A2 fs.length c2, .int .i64 tn, .bool st], .blk (w.heap.size) 36 #[.int .i64 a, .int .i64 b, .int .i64 c, .int .i64 d, .int .i64 e]] := Sep.comp (ps := [.blk (w.heap.size + 2) 33 #[.slice none 0 0, .slice none 0 0, .slice none 0 0, .int .i64 0, .bool false], .blk (w.heap.size + 3) 47 #[.int .i64 0, .int .i64 0]]) (rs := [.blk (w.heap.size + 1) 33 #[.slice A0 ts.length c0, .slice A1 ks.length c1, .slice A2 fs.length c2, .int .i64 tn, .bool st], .blk (w.heap.size) 36 #[.int .i64 a, .int .i64 b, .int .i64 c, .int .i64 d, .int .i64 e]]) M g1
 clear g1
 obtain ⟨tR, Ae, Ad, Ag, Ac, Af⟩ := M.q5 3 rfl
 obtain ⟨tS, Ab, Aa⟩ := M.q2 4 rfl
 exact ⟨.tuple #[.agg #[.slice B0 ts.length d0, .slice B1 ks.length d1, .slice B2 fs.length d2, .int .i64 tn, .bool st], .agg #[.int .i64 8, .int .i64 0]], by simp [results, Try.results54, go_sem, Ae, Ad, Ag, Ac, Af, Ab, Aa], B0, B1, B2, d0, d1, d2, rfl, M.take 3⟩
set_option maxHeartbeats 800000 in
theorem lived_noB (a b c d e : Int) (ts : List T7) (ks : List Int) (fs : List F2) (A0 A1 A2 : Option Addr) (c0 c1 c2 : Nat) (tn : Int) (st : Bool) (wk : Int) (G : FuncId) (cap : Array Value) (hG : ∀ args w, (callFunc G args).run Try.prog w = .ok (.enter G args) w) (w : World) (ht : ts.length ≤ 1048576) (hk : ks.length ≤ 1048576) (hf : fs.length ≤ 1048576) (h : InPool w ts ks fs A0 A1 A2) (hp : poolB a b c d e ts ks fs tn = true) (hw : btw wk 0 (a - 1) = true) (rp : Int) (hL : ∀ (V : World) (g : Nat) (C0 C1 C2 : Option Addr) (e0 e1 e2 : Nat), Below w.heap.size w V → Sep (fps [.blk g 33 #[.slice C0 ts.length e0, .slice C1 ks.length e1, .slice C2 fs.length e2, .int .i64 tn, .bool st], rT ts.length C0 e0 ts, rK ks.length C1 e1 ks, rF fs.length C2 e2 fs]) V V [.blk g 33 #[.slice C0 ts.length e0, .slice C1 ks.length e1, .slice C2 fs.length e2, .int .i64 tn, .bool st], rT ts.length C0 e0 ts, rK ks.length C1 e1 ks, rF fs.length C2 e2 fs] → (∀ q ∈ fps [.blk g 33 #[.slice C0 ts.length e0, .slice C1 ks.length e1, .slice C2 fs.length e2, .int .i64 tn, .bool st], rT ts.length C0 e0 ts, rK ks.length C1 e1 ks, rF fs.length C2 e2 fs], w.heap.size ≤ q) → Calls Try.prog G (#[.pointer (some ⟨g, 0, none⟩)] ++ cap) V (fun r w' => r = .panicked [{ v := .iface 102 (.int .i64 rp), recovered := false }] ∧ Sep (fps [.blk g 33 #[.slice C0 ts.length e0, .slice C1 ks.length e1, .slice C2 fs.length e2, .int .i64 tn, .bool st], rT ts.length C0 e0 ts, rK ks.length C1 e1 ks, rF fs.length C2 e2 fs]) V w' [])) :
 Calls Try.prog 54 #[.agg #[.int .i64 a, .int .i64 b, .int .i64 c, .int .i64 d, .int .i64 e], .agg #[.slice A0 ts.length c0, .slice A1 ks.length c1, .slice A2 fs.length c2, .int .i64 tn, .bool st], .int .i64 wk, .func (.func G) #[] cap] w (GaveS [] w ⟨ts, ks, fs, tn, st, rp, 0⟩) := by
 have hmf : ∀ (fn : Fn) (first cap : Array Value) (w : World), (Instr.makeFunc fn first cap).run Try.prog w = .ok (.func fn first cap) w := fun _ _ _ _ => rfl
 have hpl : 1 ≤ a ∧ a ≤ 30 := by
  have h1 := (poolB_parts hp).1
  simp [planB, btw] at h1
  omega
 obtain ⟨pl1, pl2⟩ := hpl
 have HL := hide hL
 clear hL
 have HY := hide (⟨hp, hw, trivial⟩ : _ ∧ _ ∧ True)
 clear hp hw
 have H := hide h
 clear h
 go_enter_defers Try.func54, Try.ntmps54
 go_wp2_with fail
 generalize hW : (((w.alloc _).alloc _).alloc _).alloc _ = W1
 have M := Sep.e4 hW
 clear hW
 obtain ⟨tS, Ab, Ai, Aa, Ah⟩ := M.f2 0 rfl
 obtain ⟨tR, Ae, Am, Ad, Aj, Ag, Ak, Ac, An, Af, Al⟩ := M.f5 1 rfl
 obtain ⟨tX, Bf, Ax, As, Aq, Ao, Aw, Be, Bg, Bb, Bd⟩ := M.f5 2 rfl
 obtain ⟨tP, Bh, Au, Ay, Ba, Ap, Av, Bc, Az, At, Ar⟩ := M.f5 3 rfl
 go_wp2_with fail
 go_call (pright_v a b c d e ts ks fs A0 A1 A2 c0 c1 c2 tn st _ true HY.out.1 _ hk hf (M.blk 2 rfl) (H.out.below M.below)) as r W2 ⟨rfl, g1⟩
 clear tS Ab Ai Aa Ah tR Ae Am Ad Aj Ag Ak Ac An Af Al tX Bf Ax As Aq Ao Aw Be Bg Bb Bd tP Bh Au Ay Ba Ap Av Bc Az At Ar
 replace M := M.call g1
 clear g1
 obtain ⟨tS, Ab, Ai, Aa, Ah⟩ := M.f2 0 rfl
 obtain ⟨tR, Ae, Am, Ad, Aj, Ag, Ak, Ac, An, Af, Al⟩ := M.f5 1 rfl
 obtain ⟨tX, Bf, Ax, As, Aq, Ao, Aw, Be, Bg, Bb, Bd⟩ := M.f5 2 rfl
 obtain ⟨tP, Bh, Au, Ay, Ba, Ap, Av, Bc, Az, At, Ar⟩ := M.f5 3 rfl
 go_wp2_with fail
 have hW := hasWorker_any a b c d e wk W2 pl1 pl2
 rw [HY.out.2.1] at hW
 refine Calls.mono (by with_reducible exact hW) ?_
 clear hW
 rintro r W3 ⟨rfl, g1⟩
 clear tS Ab Ai Aa Ah tR Ae Am Ad Aj Ag Ak Ac An Af Al tX Bf Ax As Aq Ao Aw Be Bg Bb Bd tP Bh Au Ay Ba Ap Av Bc Az At Ar
 replace M := M.call g1
 clear g1
 obtain ⟨tS, Ab, Ai, Aa, Ah⟩ := M.f2 0 rfl
 obtain ⟨tR, Ae, Am, Ad, Aj, Ag, Ak, Ac, An, Af, Al⟩ := M.f5 1 rfl
 obtain ⟨tX, Bf, Ax, As, Aq, Ao, Aw, Be, Bg, Bb, Bd⟩ := M.f5 2 rfl
 obtain ⟨tP, Bh, Au, Ay, Ba, Ap, Av, Bc, Az, At, Ar⟩ := M.f5 3 rfl
 go_wp2_with fail
 go_call (giveUp_no 8 _) as r W ⟨rfl, rfl⟩
 go_wp2_with fail
 go_call (copied_s ts ks fs A0 A1 A2 c0 c1 c2 tn st _ _ ht hk hf (M.blk 2 rfl) (H.out.below M.below)) as r W4 ⟨C0, C1, C2, e0, e1, e2, rfl, g1⟩
 clear tS Ab Ai Aa Ah tR Ae Am Ad Aj Ag Ak Ac An Af Al tX Bf Ax As Aq Ao Aw Be Bg Bb Bd tP Bh Au Ay Ba Ap Av Bc Az At Ar
 replace M := Sep.new M g1
 simp only [List.cons_append, List.nil_append] at M
 clear g1
 obtain ⟨tS, Ab, Ai, Aa, Ah⟩ := M.f2 3 rfl
 obtain ⟨tR, Ae, Am, Ad, Aj, Ag, Ak, Ac, An, Af, Al⟩ := M.f5 4 rfl
 obtain ⟨tX, Bf, Ax, As, Aq, Ao, Aw, Be, Bg, Bb, Bd⟩ := M.f5 5 rfl
 obtain ⟨tP, Bh, Au, Ay, Ba, Ap, Av, Bc, Az, At, Ar⟩ := M.f5 6 rfl
 go_wp2_with fail
 clear tS Ab Ai Aa Ah tR Ae Am Ad Aj Ag Ak Ac An Af Al tX Bf Ax As Aq Ao Aw Be Bg Bb Bd tP Bh Au Ay Ba Ap Av Bc Az At Ar
 have N := M.galloc 33 #[.slice C0 ts.length e0, .slice C1 ks.length e1, .slice C2 fs.length e2, .int .i64 tn, .bool st]
 clear M
 obtain ⟨W5, eW, M⟩ := N
 rw [eW]
 clear eW
 obtain ⟨tY, Bl, Bi, Bj, Bo, Br, Bm, Bp, Bn, Bq, Bk⟩ := M.f5 0 rfl
 obtain ⟨tS, Ab, Ai, Aa, Ah⟩ := M.f2 4 rfl
 obtain ⟨tR, Ae, Am, Ad, Aj, Ag, Ak, Ac, An, Af, Al⟩ := M.f5 5 rfl
 obtain ⟨tX, Bf, Ax, As, Aq, Ao, Aw, Be, Bg, Bb, Bd⟩ := M.f5 6 rfl
 obtain ⟨tP, Bh, Au, Ay, Ba, Ap, Av, Bc, Az, At, Ar⟩ := M.f5 7 rfl
 go_wp2_with fail
 clear tY Bl Bi Bj Bo Br Bm Bp Bn Bq Bk tS Ab Ai Aa Ah tR Ae Am Ad Aj Ag Ak Ac An Af Al tX Bf Ax As Aq Ao Aw Be Bg Bb Bd tP Bh Au Ay Ba Ap Av Bc Az At Ar
 replace M := M.front 3 rfl
 simp only [List.eraseIdx_cons_succ, List.eraseIdx_cons_zero] at M
 replace M := M.front 3 rfl
 simp only [List.eraseIdx_cons_succ, List.eraseIdx_cons_zero] at M
 replace M := M.front 3 rfl
 simp only [List.eraseIdx_cons_succ, List.eraseIdx_cons_zero] at M
 replace M := M.front 3 rfl
 simp only [List.eraseIdx_cons_succ, List.eraseIdx_cons_zero] at M
 have hC := HL.out _ (W4.heap.size) C0 C1 C2 e0 e1 e2 M.below (Sep.same (ps := [.blk (W4.heap.size) 33 #[.slice C0 ts.length e0, .slice C1 ks.length e1, .slice C2 fs.length e2, .int .i64 tn, .bool st], rT ts.length C0 e0 ts, rK ks.length C1 e1 ks, rF fs.length C2 e2 fs]) (rs := [.blk (w.heap.size + 3) 47 #[.int .i64 0, .int .i64 0], .blk (w.heap.size + 2) 33 #[.slice none 0 0, .slice none 0 0, .slice none 0 0, .int .i64 0, .bool false], .blk (w.heap.size + 1) 33 #[.slice A0 ts.length c0, .slice A1 ks.length c1, .slice A2 fs.length c2, .int .i64 tn, .bool st], .blk (w.heap.size) 36 #[.int .i64 a, .int .i64 b, .int .i64 c, .int .i64 d, .int .i64 e]]) M (Below.refl _ _)) (Sep.newB (ps := [.blk (W4.heap.size) 33 #[.slice C0 ts.length e0, .slice C1 ks.length e1, .slice C2 fs.length e2, .int .i64 tn, .bool st], rT ts.length C0 e0 ts, rK ks.length C1 e1 ks, rF fs.length C2 e2 fs]) (rs := [.blk (w.heap.size + 3) 47 #[.int .i64 0, .int .i64 0], .blk (w.heap.size + 2) 33 #[.slice none 0 0, .slice none 0 0, .slice none 0 0, .int .i64 0, .bool false], .blk (w.heap.size + 1) 33 #[.slice A0 ts.length c0, .slice A1 ks.length c1, .slice A2 fs.length c2, .int .i64 tn, .bool st], .blk (w.heap.size) 36 #[.int .i64 a, .int .i64 b, .int .i64 c, .int .i64 d, .int .i64 e]]) M)
 refine Calls.mono (by with_reducible exact hC) ?_
 clear hC
 rintro r W6 ⟨rfl, g1⟩
 replace M : Sep [] w W6 [.blk (w.heap.size + 3) 47 #[.int .i64 0, .int .i64 0], .blk (w.heap.size + 2) 33 #[.slice none 0 0, .slice none 0 0, .slice none 0 0, .int .i64 0, .bool false], .blk (w.heap.size + 1) 33 #[.slice A0 ts.length c0, .slice A1 ks.length c1, .slice A2 fs.length c2, .int .i64 tn, .bool st], .blk (w.heap.size) 36 #[.int .i64 a, .int .i64 b, .int .i64 c, .int .i64 d, .int .i64 e]] := Sep.comp (ps := [.blk (W4.heap.size) 33 #[.slice C0 ts.length e0, .slice C1 ks.length e1, .slice C2 fs.length e2, .int .i64 tn, .bool st], rT ts.length C0 e0 ts, rK ks.length C1 e1 ks, rF fs.length C2 e2 fs]) (rs := [.blk (w.heap.size + 3) 47 #[.int .i64 0, .int .i64 0], .blk (w.heap.size + 2) 33 #[.slice none 0 0, .slice none 0 0, .slice none 0 0, .int .i64 0, .bool false], .blk (w.heap.size + 1) 33 #[.slice A0 ts.length c0, .slice A1 ks.length c1, .slice A2 fs.length c2, .int .i64 tn, .bool st], .blk (w.heap.size) 36 #[.int .i64 a, .int .i64 b, .int .i64 c, .int .i64 d, .int .i64 e]]) M g1
 clear g1
 go_wp2_with fail
 replace M := M.front 1 rfl
 simp only [List.eraseIdx_cons_succ, List.eraseIdx_cons_zero] at M
 refine leaves_cons (f := 76) (args := #[.pointer (some ⟨w.heap.size + 1, 0, none⟩), .pointer (some ⟨w.heap.size + 2, 0, none⟩), .pointer (some ⟨w.heap.size + 3, 0, none⟩)]) (by simp) (by simp [go_sem]) ?_
 refine (catch_panic ts ks fs A0 A1 A2 c0 c1 c2 tn st _ _ _ rp [] _ ht hk hf (M.blk 2 rfl) (H.out.below M.below) (Sep.same (ps := [.blk (w.heap.size + 2) 33 #[.slice none 0 0, .slice none 0 0, .slice none 0 0, .int .i64 0, .bool false], .blk (w.heap.size + 3) 47 #[.int .i64 0, .int .i64 0]]) (rs := [.blk (w.heap.size + 1) 33 #[.slice A0 ts.length c0, .slice A1 ks.length c1, .slice A2 fs.length c2, .int .i64 tn, .bool st], .blk (w.heap.size) 36 #[.int .i64 a, .int .i64 b, .int .i64 c, .int .i64 d, .int .i64 e]]) M (Below.refl _ _))).mono ?_
 rintro r u W7 ⟨rfl, rfl, B0, B1, B2, d0, d1, d2, g1⟩
 replace M : Sep [] w W7 [rT ts.length B0 d0 ts, rK ks.length B1 d1 ks, rF fs.length B2 d2 fs, .blk (w.heap.size + 2) 33 #[.slice B0 ts.length d0, .slice B1 ks.length d1, .slice B2 fs.length d2, .int .i64 tn, .bool st], .blk (w.heap.size + 3) 47 #[.int .i64 rp, .int .i64 0], .blk (w.heap.size + 1) 33 #[.slice A0 ts.length c0, .slice A1 ks.length c1, .slice A2 fs.length c2, .int .i64 tn, .bool st], .blk (w.heap.size) 36 #[.int .i64 a, .int .i64 b, .int .i64 c, .int .i64 d, .int .i64 e]] := Sep.comp (ps := [.blk (w.heap.size + 2) 33 #[.slice none 0 0, .slice none 0 0, .slice none 0 0, .int .i64 0, .bool false], .blk (w.heap.size + 3) 47 #[.int .i64 0, .int .i64 0]]) (rs := [.blk (w.heap.size + 1) 33 #[.slice A0 ts.length c0, .slice A1 ks.length c1, .slice A2 fs.length c2, .int .i64 tn, .bool st], .blk (w.heap.size) 36 #[.int .i64 a, .int .i64 b, .int .i64 c, .int .i64 d, .int .i64 e]]) M g1
 clear g1
 obtain ⟨tR, Ae, Ad, Ag, Ac, Af⟩ := M.q5 3 rfl
 obtain ⟨tS, Ab, Aa⟩ := M.q2 4 rfl
 exact ⟨.tuple #[.agg #[.slice B0 ts.length d0, .slice B1 ks.length d1, .slice B2 fs.length d2, .int .i64 tn, .bool st], .agg #[.int .i64 rp, .int .i64 0]], by simp [results, Try.results54, go_sem, Ae, Ad, Ag, Ac, Af, Ab, Aa], B0, B1, B2, d0, d1, d2, rfl, M.take 3⟩
set_option maxHeartbeats 800000 in
theorem lived_yesB (a b c d e : Int) (ts : List T7) (ks : List Int) (fs : List F2) (A0 A1 A2 : Option Addr) (c0 c1 c2 : Nat) (tn : Int) (st : Bool) (wk : Int) (G : FuncId) (cap : Array Value) (hG : ∀ args w, (callFunc G args).run Try.prog w = .ok (.enter G args) w) (w : World) (ht : ts.length ≤ 1048576) (hk : ks.length ≤ 1048576) (hf : fs.length ≤ 1048576) (h : InPool w ts ks fs A0 A1 A2) (hp : poolB a b c d e ts ks fs tn = true) (hw : btw wk 0 (a - 1) = true) (o : OutP) (hL : ∀ (V : World) (g : Nat) (C0 C1 C2 : Option Addr) (e0 e1 e2 : Nat), Below w.heap.size w V → Sep (fps [.blk g 33 #[.slice C0 ts.length e0, .slice C1 ks.length e1, .slice C2 fs.length e2, .int .i64 tn, .bool st], rT ts.length C0 e0 ts, rK ks.length C1 e1 ks, rF fs.length C2 e2 fs]) V V [.blk g 33 #[.slice C0 ts.length e0, .slice C1 ks.length e1, .slice C2 fs.length e2, .int .i64 tn, .bool st], rT ts.length C0 e0 ts, rK ks.length C1 e1 ks, rF fs.length C2 e2 fs] → (∀ q ∈ fps [.blk g 33 #[.slice C0 ts.length e0, .slice C1 ks.length e1, .slice C2 fs.length e2, .int .i64 tn, .bool st], rT ts.length C0 e0 ts, rK ks.length C1 e1 ks, rF fs.length C2 e2 fs], w.heap.size ≤ q) → Calls Try.prog G (#[.pointer (some ⟨g, 0, none⟩)] ++ cap) V (fun r w' => ∃ (D0 D1 D2 : Option Addr) (f0 f1 f2 : Nat), r = .returned (.agg #[.int .i64 o.rp, .int .i64 o.ou]) ∧ Sep (fps [.blk g 33 #[.slice C0 ts.length e0, .slice C1 ks.length e1, .slice C2 fs.length e2, .int .i64 tn, .bool st], rT ts.length C0 e0 ts, rK ks.length C1 e1 ks, rF fs.length C2 e2 fs]) V w' [.blk g 33 #[.slice D0 o.ts.length f0, .slice D1 o.ks.length f1, .slice D2 o.fs.length f2, .int .i64 o.tn, .bool o.st], rT o.ts.length D0 f0 o.ts, rK o.ks.length D1 f1 o.ks, rF o.fs.length D2 f2 o.fs])) :
 Calls Try.prog 54 #[.agg #[.int .i64 a, .int .i64 b, .int .i64 c, .int .i64 d, .int .i64 e], .agg #[.slice A0 ts.length c0, .slice A1 ks.length c1, .slice A2 fs.length c2, .int .i64 tn, .bool st], .int .i64 wk, .func (.func G) #[] cap] w (GaveS [] w o) := by
 have hmf : ∀ (fn : Fn) (first cap : Array Value) (w : World), (Instr.makeFunc fn first cap).run Try.prog w = .ok (.func fn first cap) w := fun _ _ _ _ => rfl
 have hpl : 1 ≤ a ∧ a ≤ 30 := by
  have h1 := (poolB_parts hp).1
  simp [planB, btw] at h1
  omega
 obtain ⟨pl1, pl2⟩ := hpl
 have HL := hide hL
 clear hL
 have HY := hide (⟨hp, hw, trivial⟩ : _ ∧ _ ∧ True)
 clear hp hw
 have H := hide h
 clear h
 go_enter_defers Try.func54, Try.ntmps54
 go_wp2_with fail
 generalize hW : (((w.alloc _).alloc _).alloc _).alloc _ = W1
 have M := Sep.e4 hW
 clear hW
 obtain ⟨tS, Ab, Ai, Aa, Ah⟩ := M.f2 0 rfl
 obtain ⟨tR, Ae, Am, Ad, Aj, Ag, Ak, Ac, An, Af, Al⟩ := M.f5 1 rfl
 obtain ⟨tX, Bf, Ax, As, Aq, Ao, Aw, Be, Bg, Bb, Bd⟩ := M.f5 2 rfl
 obtain ⟨tP, Bh, Au, Ay, Ba, Ap, Av, Bc, Az, At, Ar⟩ := M.f5 3 rfl
 go_wp2_with fail
 go_call (pright_v a b c d e ts ks fs A0 A1 A2 c0 c1 c2 tn st _ true HY.out.1 _ hk hf (M.blk 2 rfl) (H.out.below M.below)) as r W2 ⟨rfl, g1⟩
 clear tS Ab Ai Aa Ah tR Ae Am Ad Aj Ag Ak Ac An Af Al tX Bf Ax As Aq Ao Aw Be Bg Bb Bd tP Bh Au Ay Ba Ap Av Bc Az At Ar
 replace M := M.call g1
 clear g1
 obtain ⟨tS, Ab, Ai, Aa, Ah⟩ := M.f2 0 rfl
 obtain ⟨tR, Ae, Am, Ad, Aj, Ag, Ak, Ac, An, Af, Al⟩ := M.f5 1 rfl
 obtain ⟨tX, Bf, Ax, As, Aq, Ao, Aw, Be, Bg, Bb, Bd⟩ := M.f5 2 rfl
 obtain ⟨tP, Bh, Au, Ay, Ba, Ap, Av, Bc, Az, At, Ar⟩ := M.f5 3 rfl
 go_wp2_with fail
 have hW := hasWorker_any a b c d e wk W2 pl1 pl2
 rw [HY.out.2.1] at hW
 refine Calls.mono (by with_reducible exact hW) ?_
 clear hW
 rintro r W3 ⟨rfl, g1⟩
 clear tS Ab Ai Aa Ah tR Ae Am Ad Aj Ag Ak Ac An Af Al tX Bf Ax As Aq Ao Aw Be Bg Bb Bd tP Bh Au Ay Ba Ap Av Bc Az At Ar
 replace M := M.call g1
 clear g1
 obtain ⟨tS, Ab, Ai, Aa, Ah⟩ := M.f2 0 rfl
 obtain ⟨tR, Ae, Am, Ad, Aj, Ag, Ak, Ac, An, Af, Al⟩ := M.f5 1 rfl
 obtain ⟨tX, Bf, Ax, As, Aq, Ao, Aw, Be, Bg, Bb, Bd⟩ := M.f5 2 rfl
 obtain ⟨tP, Bh, Au, Ay, Ba, Ap, Av, Bc, Az, At, Ar⟩ := M.f5 3 rfl
 go_wp2_with fail
 go_call (giveUp_no 8 _) as r W ⟨rfl, rfl⟩
 go_wp2_with fail
 go_call (copied_s ts ks fs A0 A1 A2 c0 c1 c2 tn st _ _ ht hk hf (M.blk 2 rfl) (H.out.below M.below)) as r W4 ⟨C0, C1, C2, e0, e1, e2, rfl, g1⟩
 clear tS Ab Ai Aa Ah tR Ae Am Ad Aj Ag Ak Ac An Af Al tX Bf Ax As Aq Ao Aw Be Bg Bb Bd tP Bh Au Ay Ba Ap Av Bc Az At Ar
 replace M := Sep.new M g1
 simp only [List.cons_append, List.nil_append] at M
 clear g1
 obtain ⟨tS, Ab, Ai, Aa, Ah⟩ := M.f2 3 rfl
 obtain ⟨tR, Ae, Am, Ad, Aj, Ag, Ak, Ac, An, Af, Al⟩ := M.f5 4 rfl
 obtain ⟨tX, Bf, Ax, As, Aq, Ao, Aw, Be, Bg, Bb, Bd⟩ := M.f5 5 rfl
 obtain ⟨tP, Bh, Au, Ay, Ba, Ap, Av, Bc, Az, At, Ar⟩ := M.f5 6 rfl
 go_wp2_with fail
 clear tS Ab Ai Aa Ah tR Ae Am Ad Aj Ag Ak Ac An Af Al tX Bf Ax As Aq Ao Aw Be Bg Bb Bd tP Bh Au Ay Ba Ap Av Bc Az At Ar
 have N := M.galloc 33 #[.slice C0 ts.length e0, .slice C1 ks.length e1, .slice C2 fs.length e2, .int .i64 tn, .bool st]
 clear M
 obtain ⟨W5, eW, M⟩ := N
 rw [eW]
 clear eW
 obtain ⟨tY, Bl, Bi, Bj, Bo, Br, Bm, Bp, Bn, Bq, Bk⟩ := M.f5 0 rfl
 obtain ⟨tS, Ab, Ai, Aa, Ah⟩ := M.f2 4 rfl
 obtain ⟨tR, Ae, Am, Ad, Aj, Ag, Ak, Ac, An, Af, Al⟩ := M.f5 5 rfl
 obtain ⟨tX, Bf, Ax, As, Aq, Ao, Aw, Be, Bg, Bb, Bd⟩ := M.f5 6 rfl
 obtain ⟨tP, Bh, Au, Ay, Ba, Ap, Av, Bc, Az, At, Ar⟩ := M.f5 7 rfl
 go_wp2_with fail
 clear tY Bl Bi Bj Bo Br Bm Bp Bn Bq Bk tS Ab Ai Aa Ah tR Ae Am Ad Aj Ag Ak Ac An Af Al tX Bf Ax As Aq Ao Aw Be Bg Bb Bd tP Bh Au Ay Ba Ap Av Bc Az At Ar
 replace M := M.front 3 rfl
 simp only [List.eraseIdx_cons_succ, List.eraseIdx_cons_zero] at M
 replace M := M.front 3 rfl
 simp only [List.eraseIdx_cons_succ, List.eraseIdx_cons_zero] at M
 replace M := M.front 3 rfl
 simp only [List.eraseIdx_cons_succ, List.eraseIdx_cons_zero] at M
 replace M := M.front 3 rfl
 simp only [List.eraseIdx_cons_succ, List.eraseIdx_cons_zero] at M
 have hC := HL.out _ (W4.heap.size) C0 C1 C2 e0 e1 e2 M.below (Sep.same (ps := [.blk (W4.heap.size) 33 #[.slice C0 ts.length e0, .slice C1 ks.length e1, .slice C2 fs.length e2, .int .i64 tn, .bool st], rT ts.length C0 e0 ts, rK ks.length C1 e1 ks, rF fs.length C2 e2 fs]) (rs := [.blk (w.heap.size + 3) 47 #[.int .i64 0, .int .i64 0], .blk (w.heap.size + 2) 33 #[.slice none 0 0, .slice none 0 0, .slice none 0 0, .int .i64 0, .bool false], .blk (w.heap.size + 1) 33 #[.slice A0 ts.length c0, .slice A1 ks.length c1, .slice A2 fs.length c2, .int .i64 tn, .bool st], .blk (w.heap.size) 36 #[.int .i64 a, .int .i64 b, .int .i64 c, .int .i64 d, .int .i64 e]]) M (Below.refl _ _)) (Sep.newB (ps := [.blk (W4.heap.size) 33 #[.slice C0 ts.length e0, .slice C1 ks.length e1, .slice C2 fs.length e2, .int .i64 tn, .bool st], rT ts.length C0 e0 ts, rK ks.length C1 e1 ks, rF fs.length C2 e2 fs]) (rs := [.blk (w.heap.size + 3) 47 #[.int .i64 0, .int .i64 0], .blk (w.heap.size + 2) 33 #[.slice none 0 0, .slice none 0 0, .slice none 0 0, .int .i64 0, .bool false], .blk (w.heap.size + 1) 33 #[.slice A0 ts.length c0, .slice A1 ks.length c1, .slice A2 fs.length c2, .int .i64 tn, .bool st], .blk (w.heap.size) 36 #[.int .i64 a, .int .i64 b, .int .i64 c, .int .i64 d, .int .i64 e]]) M)
 refine Calls.mono (by with_reducible exact hC) ?_
 clear hC
 rintro r W6 ⟨D0, D1, D2, f0, f1, f2, rfl, g1⟩
 replace M : Sep [] w W6 [.blk (W4.heap.size) 33 #[.slice D0 o.ts.length f0, .slice D1 o.ks.length f1, .slice D2 o.fs.length f2, .int .i64 o.tn, .bool o.st], rT o.ts.length D0 f0 o.ts, rK o.ks.length D1 f1 o.ks, rF o.fs.length D2 f2 o.fs, .blk (w.heap.size + 3) 47 #[.int .i64 0, .int .i64 0], .blk (w.heap.size + 2) 33 #[.slice none 0 0, .slice none 0 0, .slice none 0 0, .int .i64 0, .bool false], .blk (w.heap.size + 1) 33 #[.slice A0 ts.length c0, .slice A1 ks.length c1, .slice A2 fs.length c2, .int .i64 tn, .bool st], .blk (w.heap.size) 36 #[.int .i64 a, .int .i64 b, .int .i64 c, .int .i64 d, .int .i64 e]] := Sep.comp (ps := [.blk (W4.heap.size) 33 #[.slice C0 ts.length e0, .slice C1 ks.length e1, .slice C2 fs.length e2, .int .i64 tn, .bool st], rT ts.length C0 e0 ts, rK ks.length C1 e1 ks, rF fs.length C2 e2 fs]) (rs := [.blk (w.heap.size + 3) 47 #[.int .i64 0, .int .i64 0], .blk (w.heap.size + 2) 33 #[.slice none 0 0, .slice none 0 0, .slice none 0 0, .int .i64 0, .bool false], .blk (w.heap.size + 1) 33 #[.slice A0 ts.length c0, .slice A1 ks.length c1, .slice A2 fs.length c2, .int .i64 tn, .bool st], .blk (w.heap.size) 36 #[.int .i64 a, .int .i64 b, .int .i64 c, .int .i64 d, .int .i64 e]]) M g1
 clear g1
 obtain ⟨tY, Bl, Bi, Bj, Bo, Br, Bm, Bp, Bn, Bq, Bk⟩ := M.f5 0 rfl
 obtain ⟨tS, Ab, Ai, Aa, Ah⟩ := M.f2 4 rfl
 go_wp2_with fail
 clear tY Bl Bi Bj Bo Br Bm Bp Bn Bq Bk tS Ab Ai Aa Ah
 have N := M.gset2 4 rfl (.int .i64 o.rp) (.int .i64 o.ou)
 clear M
 obtain ⟨W7, eW, M⟩ := N
 rw [eW]
 clear eW
 simp only [List.set_cons_zero, List.set_cons_succ] at M
 go_cut [] from 25 to 26 (fun wc => Sep [] w wc [.blk (W4.heap.size) 33 #[.slice D0 o.ts.length f0, .slice D1 o.ks.length f1, .slice D2 o.fs.length f2, .int .i64 o.tn, .bool o.st], rT o.ts.length D0 f0 o.ts, rK o.ks.length D1 f1 o.ks, rF o.fs.length D2 f2 o.fs, .blk (w.heap.size + 3) 47 #[.int .i64 o.rp, .int .i64 o.ou], .blk (w.heap.size + 2) 33 #[.slice D0 o.ts.length f0, .slice D1 o.ks.length f1, .slice D2 o.fs.length f2, .int .i64 o.tn, .bool o.st], .blk (w.heap.size + 1) 33 #[.slice A0 ts.length c0, .slice A1 ks.length c1, .slice A2 fs.length c2, .int .i64 tn, .bool st], .blk (w.heap.size) 36 #[.int .i64 a, .int .i64 b, .int .i64 c, .int .i64 d, .int .i64 e]])
 case first =>
  refine wp_noPanic ?_
  refine wp_region_T (S := (fun w' => w'.cell? ⟨W4.heap.size, 0, none⟩ = some (.slice D0 o.ts.length f0) ∧ w'.cell? ⟨W4.heap.size, 1, none⟩ = some (.slice D1 o.ks.length f1) ∧ w'.cell? ⟨W4.heap.size, 2, none⟩ = some (.slice D2 o.fs.length f2) ∧ w'.cell? ⟨W4.heap.size, 3, none⟩ = some (.int .i64 o.tn) ∧ w'.cell? ⟨W4.heap.size, 4, none⟩ = some (.bool o.st) ∧ w'.cell? ⟨w.heap.size + 3, 0, none⟩ = some (.int .i64 o.rp) ∧ w'.cell? ⟨w.heap.size + 3, 1, none⟩ = some (.int .i64 o.ou))) (ks := [3]) (by kernel_rfl) ⟨M.cell 0 0 rfl, M.cell 0 1 rfl, M.cell 0 2 rfl, M.cell 0 3 rfl, M.cell 0 4 rfl, M.cell 4 0 rfl, M.cell 4 1 rfl⟩ (fun hHeld => ?_)
  replace M := M.drew
  generalize W7.drew = W8 at M hHeld ⊢
  refine tkL 0 ?v0u1 rfl ?hy0u1 hHeld ?_
  case hy0u1 => (intro w hSw; (try dsimp only at hSw); go_split_ands; go_simp; all_goals with_reducible rfl)
  try simp only [Act.put, List.setIfInBounds_toArray, List.set_cons_zero, List.set_cons_succ]
  refine tkL 1 ?v1u2 rfl ?hy1u2 hHeld ?_
  case hy1u2 => (intro w hSw; (try dsimp only at hSw); go_split_ands; go_simp; all_goals with_reducible rfl)
  try simp only [Act.put, List.setIfInBounds_toArray, List.set_cons_zero, List.set_cons_succ]
  obtain ⟨tR, Ae, Am, Ad, Aj, Ag, Ak, Ac, An, Af, Al⟩ := M.f5 5 rfl
  refine wpAnyT_callL (i := 2) rfl (by kernel_rfl) (fun K hK => ?_)
  go_simp
  clear tR Ae Am Ad Aj Ag Ak Ac An Af Al
  have N := M.gset5 5 rfl (.slice D0 o.ts.length f0) (.slice D1 o.ks.length f1) (.slice D2 o.fs.length f2) (.int .i64 o.tn) (.bool o.st)
  clear M
  obtain ⟨W9, eW, M⟩ := N
  rw [eW]
  clear eW
  simp only [List.set_cons_zero, List.set_cons_succ] at M
  clear hHeld
  refine hK.out _ _ ?_ (fun hHeld => ?_)
  ·exact ⟨M.cell 0 0 rfl, M.cell 0 1 rfl, M.cell 0 2 rfl, M.cell 0 3 rfl, M.cell 0 4 rfl, M.cell 4 0 rfl, M.cell 4 1 rfl⟩
  clear hK K
  try simp only [Act.put, List.setIfInBounds_toArray, List.set_cons_zero, List.set_cons_succ]
  obtain ⟨tS, Ab, Ai, Aa, Ah⟩ := M.f2 4 rfl
  refine wpAnyT_oneL (i := 3) rfl (by kernel_rfl) (by kernel_rfl) (fun K hK => ?_)
  go_simp
  refine hK.out _ _ ?_
  clear hK K
  try simp only [Act.put, List.setIfInBounds_toArray, List.set_cons_zero, List.set_cons_succ]
  clear tS Ab Ai Aa Ah
  have N := M.gset2 4 rfl (.int .i64 o.rp) (.int .i64 o.ou)
  clear M
  obtain ⟨W10, eW, M⟩ := N
  rw [eW]
  clear eW
  simp only [List.set_cons_zero, List.set_cons_succ] at M
  refine wpAnyT_done (by kernel_rfl) ?_ _
  go_wp2_with fail
  go_meet
  exact M
 case rest =>
  clear M
  have M := hcut
  clear hcut
  rename World => W11
  go_wp2_with fail
  replace M := M.front 4 rfl
  simp only [List.eraseIdx_cons_succ, List.eraseIdx_cons_zero] at M
  replace M := M.front 5 rfl
  simp only [List.eraseIdx_cons_succ, List.eraseIdx_cons_zero] at M
  refine leaves_cons (f := 76) (args := #[.pointer (some ⟨w.heap.size + 1, 0, none⟩), .pointer (some ⟨w.heap.size + 2, 0, none⟩), .pointer (some ⟨w.heap.size + 3, 0, none⟩)]) (by simp) (by simp [go_sem]) ?_
  refine (catch_idle _ _ _ _).mono ?_
  rintro r u WZ ⟨rfl, rfl, rfl⟩
  replace M := M.front 5 rfl
  simp only [List.eraseIdx_cons_succ, List.eraseIdx_cons_zero] at M
  replace M := M.front 5 rfl
  simp only [List.eraseIdx_cons_succ, List.eraseIdx_cons_zero] at M
  replace M := M.front 5 rfl
  simp only [List.eraseIdx_cons_succ, List.eraseIdx_cons_zero] at M
  obtain ⟨tR, Ae, Ad, Ag, Ac, Af⟩ := M.q5 3 rfl
  obtain ⟨tS, Ab, Aa⟩ := M.q2 4 rfl
  exact ⟨.tuple #[.agg #[.slice D0 o.ts.length f0, .slice D1 o.ks.length f1, .slice D2 o.fs.length f2, .int .i64 o.tn, .bool o.st], .agg #[.int .i64 o.rp, .int .i64 o.ou]], by simp [results, Try.results54, go_sem, Ae, Ad, Ag, Ac, Af, Ab, Aa], D0, D1, D2, f0, f1, f2, rfl, M.take 3⟩
theorem lived_no (a b c d e : Int) (ts : List T7) (ks : List Int) (fs : List F2) (A0 A1 A2 : Option Addr) (c0 c1 c2 : Nat) (tn : Int) (st : Bool) (wk : Int) (G : FuncId) (cap : Array Value) (hG : ∀ args w, (callFunc G args).run Try.prog w = .ok (.enter G args) w) (w : World) (ht : ts.length ≤ 1048576) (hk : ks.length ≤ 1048576) (hf : fs.length ≤ 1048576) (h : InPool w ts ks fs A0 A1 A2) (hp : poolB a b c d e ts ks fs tn = true) (hw : btw wk 0 (a - 1) = true) (rp : Int) (hL : ∀ (V : World) (g : Nat) (C0 C1 C2 : Option Addr) (e0 e1 e2 : Nat), Below w.heap.size w V → Sep (fps [.blk g 33 #[.slice C0 ts.length e0, .slice C1 ks.length e1, .slice C2 fs.length e2, .int .i64 tn, .bool st], rT ts.length C0 e0 ts, rK ks.length C1 e1 ks, rF fs.length C2 e2 fs]) V V [.blk g 33 #[.slice C0 ts.length e0, .slice C1 ks.length e1, .slice C2 fs.length e2, .int .i64 tn, .bool st], rT ts.length C0 e0 ts, rK ks.length C1 e1 ks, rF fs.length C2 e2 fs] → Calls Try.prog G (#[.pointer (some ⟨g, 0, none⟩)] ++ cap) V (fun r w' => r = .panicked [{ v := .iface 102 (.int .i64 rp), recovered := false }] ∧ Sep (fps [.blk g 33 #[.slice C0 ts.length e0, .slice C1 ks.length e1, .slice C2 fs.length e2, .int .i64 tn, .bool st], rT ts.length C0 e0 ts, rK ks.length C1 e1 ks, rF fs.length C2 e2 fs]) V w' [])) :
 Calls Try.prog 54 #[.agg #[.int .i64 a, .int .i64 b, .int .i64 c, .int .i64 d, .int .i64 e], .agg #[.slice A0 ts.length c0, .slice A1 ks.length c1, .slice A2 fs.length c2, .int .i64 tn, .bool st], .int .i64 wk, .func (.func G) #[] cap] w (GaveS [] w ⟨ts, ks, fs, tn, st, rp, 0⟩) := by
 apply lived_noB (hL := fun V g C0 C1 C2 e0 e1 e2 hV hM _ => hL V g C0 C1 C2 e0 e1 e2 hV hM) <;> assumption
theorem lived_yes (a b c d e : Int) (ts : List T7) (ks : List Int) (fs : List F2) (A0 A1 A2 : Option Addr) (c0 c1 c2 : Nat) (tn : Int) (st : Bool) (wk : Int) (G : FuncId) (cap : Array Value) (hG : ∀ args w, (callFunc G args).run Try.prog w = .ok (.enter G args) w) (w : World) (ht : ts.length ≤ 1048576) (hk : ks.length ≤ 1048576) (hf : fs.length ≤ 1048576) (h : InPool w ts ks fs A0 A1 A2) (hp : poolB a b c d e ts ks fs tn = true) (hw : btw wk 0 (a - 1) = true) (o : OutP) (hL : ∀ (V : World) (g : Nat) (C0 C1 C2 : Option Addr) (e0 e1 e2 : Nat), Below w.heap.size w V → Sep (fps [.blk g 33 #[.slice C0 ts.length e0, .slice C1 ks.length e1, .slice C2 fs.length e2, .int .i64 tn, .bool st], rT ts.length C0 e0 ts, rK ks.length C1 e1 ks, rF fs.length C2 e2 fs]) V V [.blk g 33 #[.slice C0 ts.length e0, .slice C1 ks.length e1, .slice C2 fs.length e2, .int .i64 tn, .bool st], rT ts.length C0 e0 ts, rK ks.length C1 e1 ks, rF fs.length C2 e2 fs] → Calls Try.prog G (#[.pointer (some ⟨g, 0, none⟩)] ++ cap) V (fun r w' => ∃ (D0 D1 D2 : Option Addr) (f0 f1 f2 : Nat), r = .returned (.agg #[.int .i64 o.rp, .int .i64 o.ou]) ∧ Sep (fps [.blk g 33 #[.slice C0 ts.length e0, .slice C1 ks.length e1, .slice C2 fs.length e2, .int .i64 tn, .bool st], rT ts.length C0 e0 ts, rK ks.length C1 e1 ks, rF fs.length C2 e2 fs]) V w' [.blk g 33 #[.slice D0 o.ts.length f0, .slice D1 o.ks.length f1, .slice D2 o.fs.length f2, .int .i64 o.tn, .bool o.st], rT o.ts.length D0 f0 o.ts, rK o.ks.length D1 f1 o.ks, rF o.fs.length D2 f2 o.fs])) :
 Calls Try.prog 54 #[.agg #[.int .i64 a, .int .i64 b, .int .i64 c, .int .i64 d, .int .i64 e], .agg #[.slice A0 ts.length c0, .slice A1 ks.length c1, .slice A2 fs.length c2, .int .i64 tn, .bool st], .int .i64 wk, .func (.func G) #[] cap] w (GaveS [] w o) := by
 apply lived_yesB (hL := fun V g C0 C1 C2 e0 e1 e2 hV hM _ => hL V g C0 C1 C2 e0 e1 e2 hV hM) <;> assumption
set_option maxRecDepth 100000
set_option maxHeartbeats 400000 in
theorem runNone_no (ts : List T7) (A0 A1 A2 : Option Addr) (c0 n1 c1 n2 c2 : Nat) (tn : Int) (st : Bool) (wk : Int) (g : Nat) (w : World) (hlen : ts.length ≤ 1048576) (hg : Blk w g 33 #[.slice A0 ts.length c0, .slice A1 n1 c1, .slice A2 n2 c2, .int .i64 tn, .bool st]) (h0 : Row w A0 (tcells ts)) (hr : runM ts wk 0 = -1) :
 Calls Try.prog 79 #[.pointer (some ⟨g, 0, none⟩), .int .i64 wk] w fun r w' => r = .panicked [{ v := .iface 102 (.int .i64 2), recovered := false }] ∧ Below w.heap.size w w' := by
 have hR := hide (runBy_any ts A0 A1 A2 c0 n1 c1 n2 c2 tn st wk g w hlen hg h0)
 rw [hr] at hR
 clear hg h0 hr
 go_enter Try.func79, Try.ntmps79
 go_wp2_with fail
 refine Calls.mono (by with_reducible exact hR.out) ?_
 rintro r W ⟨rfl, g1⟩
 go_wp2_with fail
 go_call (giveUp_yes 2 _) as r W ⟨rfl, rfl⟩
 go_wp2_with fail
 exact ⟨rfl, rfl, g1⟩
set_option maxHeartbeats 400000 in
theorem runNone_ok (ts : List T7) (A0 A1 A2 : Option Addr) (c0 n1 c1 n2 c2 : Nat) (tn : Int) (st : Bool) (wk : Int) (g : Nat) (me : Int) (w : World) (hlen : ts.length ≤ 1048576) (hg : Blk w g 33 #[.slice A0 ts.length c0, .slice A1 n1 c1, .slice A2 n2 c2, .int .i64 tn, .bool st]) (h0 : Row w A0 (tcells ts)) (hr : runM ts wk 0 = me) (hm : 0 ≤ me) :
 Calls Try.prog 79 #[.pointer (some ⟨g, 0, none⟩), .int .i64 wk] w fun r w' => r = .returned (.int .i64 me) ∧ Below w.heap.size w w' := by
 have hR := hide (runBy_any ts A0 A1 A2 c0 n1 c1 n2 c2 tn st wk g w hlen hg h0)
 rw [hr] at hR
 have hne : (me == -1) = false := by rw [beq_eq_false_iff_ne]; omega
 clear hg h0 hr hm
 go_enter Try.func79, Try.ntmps79
 go_wp2_with fail
 refine Calls.mono (by with_reducible exact hR.out) ?_
 rintro r W ⟨rfl, g1⟩
 go_wp2_with fail
 go_call (giveUp_no 2 _) as r W ⟨rfl, rfl⟩
 go_wp2_with fail
 go_ret
 exact ⟨rfl, g1⟩
set_option maxHeartbeats 400000 in
theorem okWith_any (o : Int) (w : World) :
 Calls Try.prog 80 #[.int .i64 o] w fun r w' => r = .returned (.agg #[.int .i64 1, .int .i64 o]) ∧ Below w.heap.size w w' := by
 go_enter Try.func80, Try.ntmps80
 go_wp2
 exact bodyPost_ret (v := .agg #[.int .i64 1, .int .i64 o]) (by simp [results, Try.results80, go_sem]) rfl ⟨rfl, by go_grown⟩
theorem runM_low (ts : List T7) (wk i : Int) : runM ts wk i = -1 ∨ i ≤ runM ts wk i := by
 induction ts generalizing i with
 | nil => exact .inl rfl
 | cons t r ih =>
  simp only [runM]
  split
  ·exact .inr (Int.le_refl _)
  ·exact (ih (i + 1)).imp id (fun h => by omega)
theorem runM_none {ts : List T7} {wk : Int} (h : runM ts wk 0 < 0) : runM ts wk 0 = -1 :=
 (runM_low ts wk 0).elim id (fun h1 => by omega)
theorem fit_parts {a b c d e : Int} {ts : List T7} {tn : Int} {k : Nat} {x : T7} (h : fitB a b c d e ts tn k x = true) : planB a b c d e = true ∧ btw x.s 1 5 = true ∧ btw x.l 0 (c - 1) = true ∧ ownB a x.s x.o = true ∧ waitB b d e x.s x.wt x.on = true ∧ btw x.v 0 9999 = true ∧ btw x.t 0 1000000 = true ∧ x.t < tn ∧ soloTo ts k x.s x.o = true ∧ waitsOk ts.length k x.wt x.on = true := by
 simp only [fitB, taskB, Bool.and_eq_true, decide_eq_true_eq] at h
 obtain ⟨⟨h1, h2, h3, h4, h5, h6, h7⟩, h8, h9, h10⟩ := h
 exact ⟨h1, h2, h3, h4, h5, h6, h7, h8, h9, h10⟩
theorem fit_mk {a b c d e : Int} {ts : List T7} {tn : Int} {k : Nat} {x : T7} (h1 : planB a b c d e = true) (h2 : btw x.s 1 5 = true) (h3 : btw x.l 0 (c - 1) = true) (h4 : ownB a x.s x.o = true) (h5 : waitB b d e x.s x.wt x.on = true) (h6 : btw x.v 0 9999 = true) (h7 : btw x.t 0 1000000 = true) (h8 : x.t < tn) (h9 : soloTo ts k x.s x.o = true) (h10 : waitsOk ts.length k x.wt x.on = true) : fitB a b c d e ts tn k x = true := by
 simp only [fitB, taskB, Bool.and_eq_true, decide_eq_true_eq]
 exact ⟨⟨h1, h2, h3, h4, h5, h6, h7⟩, h8, h9, h10⟩
theorem wait_run {b d e s wt on : Int} (h : waitB b d e s wt on = true) (hs : s ≠ 3) : wt = 0 ∧ on = 0 := by
 simp only [waitB, if_neg hs, Bool.and_eq_true, beq_iff_eq] at h
 exact h
theorem wait_no {b d e s : Int} (hs : s ≠ 3) : waitB b d e s 0 0 = true := by simp [waitB, hs]
theorem solo_no {ts : List T7} {k : Nat} {s o : Int} (hs : s ≠ 2) : soloTo ts k s o = true := by simp [soloTo, hs]
theorem waits_no {n k : Nat} {on : Int} : waitsOk n k 0 on = true := by simp [waitsOk]
theorem own_no {a s : Int} (hs : s ≠ 2) : ownB a s (-1) = true := by simp [ownB, hs]
theorem pool_fit {a b c d e : Int} {ts : List T7} {ks : List Int} {fs : List F2} {tn : Int} {k : Nat} {x : T7} (h : poolB a b c d e ts ks fs tn = true) (hx : ts[k]? = some x) : fitB a b c d e ts tn k x = true := (tasksB_iff ..).1 (poolB_parts h).2.2.2 k x hx
theorem end_right {a b c d e : Int} {ts : List T7} {ks : List Int} {fs : List F2} {tn : Int} {k : Nat} {s l o wt on v t vv : Int} (h : poolB a b c d e ts ks fs tn = true) (hx : ts[k]? = some ⟨s, l, o, wt, on, v, t⟩) (hs : s = 2) (hv : btw vv 0 9999 = true) : poolB a b c d e (ts.set k ⟨4, l, -1, wt, on, vv, t⟩) ks fs tn = true := by
 obtain ⟨h1, h2, h3, h4, h5, h6, h7, h8, h9, h10⟩ := fit_parts (pool_fit h hx)
 obtain ⟨hp, hb, _, hT⟩ := poolB_parts h
 simp only at h2 h3 h4 h5 h6 h7 h8 h9 h10
 obtain ⟨rfl, rfl⟩ := wait_run h5 (by omega)
 refine poolB_turn h (by simp) hb (tasksB_set hT (by omega) (by simp) ?_)
 exact fit_mk hp (by simp [btw]) h3 (own_no (by simp)) (wait_no (by simp)) hv h7 h8 (solo_no (by simp)) waits_no
theorem runM_runs {ts : List T7} {wk i : Int} {k : Nat} (hi : 0 ≤ i) (h : runM ts wk i = i + k) : ∃ x, ts[k]? = some x ∧ x.s = 2 ∧ x.o = wk := by
 induction ts generalizing i k with
 | nil => simp only [runM] at h; omega
 | cons t r ih =>
  simp only [runM] at h
  split at h
  ·rename_i hm
   obtain rfl : k = 0 := by omega
   exact ⟨t, rfl, hm.1, hm.2⟩
  ·cases k with
   | zero => rcases runM_low r wk (i + 1) with h1 | h1 <;> omega
   | succ k =>
    obtain ⟨x, hx, h1⟩ := ih (i := i + 1) (k := k) (by omega) (by omega)
    exact ⟨x, by simpa using hx, h1⟩
theorem wakeAll_right2 {a b c d e : Int} {ks : List Int} {fs : List F2} {v : Int} (hv : btw v 0 9999 = true) : ∀ (L : List Int) (ts : List T7) (tn : Int), poolB a b c d e ts ks fs tn = true → L.Nodup → (∀ j ∈ L, ∃ (k : Nat) (x : T7), j = k ∧ ts[k]? = some x ∧ x.s = 3) → tn + L.length ≤ 1000000 → poolB a b c d e (wakeAllT L ts tn v) ks fs (tn + L.length) = true
 | [], ts, tn, hp, _, _, _ => by simpa [wakeAllT] using hp
 | j :: r, ts, tn, hp, hn, hm, hb => by
  obtain ⟨k, x, rfl, hx, hs⟩ := hm j (List.mem_cons_self ..)
  have h1 := wake_right (v := v) hp hx hs hv (by simp at hb; omega)
  obtain ⟨hn1, hn2⟩ := List.nodup_cons.1 hn
  have h2 := wakeAll_right2 hv r (ts.set k (wakeT x tn v)) (tn + 1) h1 hn2 (fun i hi => by
   obtain ⟨k2, x2, rfl, hx2, hs2⟩ := hm i (List.mem_cons_of_mem _ hi)
   refine ⟨k2, x2, rfl, ?_, hs2⟩
   rw [List.getElem?_set_ne (by intro e; apply hn1; rw [e]; exact hi)]
   exact hx2) (by simp at hb; omega)
  simp only [wakeAllT, Int.toNat_natCast, taskAt_of hx, List.length_cons]
  rw [show tn + ((r.length + 1 : Nat) : Int) = tn + 1 + (r.length : Int) by omega]
  exact h2
/-- Those who wait are woken: the pool is right just where there is a turn for each. -/
theorem wakeAll_ok {a b c d e : Int} {ts : List T7} {ks : List Int} {fs : List F2} {tn v wt on : Int} (hv : btw v 0 9999 = true) (h : poolB a b c d e ts ks fs tn = true) : poolB a b c d e (wakeAllT (waitersM ts wt on) ts tn v) ks fs (tn + (waitersM ts wt on).length) = okAll (waitersM ts wt on) v tn := by
 by_cases hb : tn + ((waitersM ts wt on).length : Int) ≤ 1000000
 ·rw [wakeAll_right2 hv _ ts tn h (waitersM_nodup ts wt on) (fun j hj => by
   obtain ⟨k, x, h1, _, h2, h3, _⟩ := waitersM_mem hj
   exact ⟨k, x, h1, h2, h3⟩) hb]
  simp [okAll, hv, hb]
 ·rw [turn_over hb]
  have he : (waitersM ts wt on).isEmpty = false := by
   cases hL : waitersM ts wt on with
   | nil => rw [hL] at hb; simp at hb; have := (poolB_parts h).2.1; omega
   | cons i r => rfl
  simp only [okAll, he, hv, Bool.false_or, Bool.true_and, decide_eq_false hb]
end Go.Proofs.Ytfkdfkoigojciaa
