/- Pools in memory: tasks, tokens and futures by their cells. No condition. -/
import Derived.Test.YtgbckcidmojnoaaWords
namespace Go.Proofs.Ytgbckcidmojnoaa
open Go.RowKit

structure T7 where (s l o wt on v t : Int)
structure F2 where (b : Bool) (v : Int)
def T7.cs (x : T7) : List Value := [.int .i64 x.s, .int .i64 x.l, .int .i64 x.o, .int .i64 x.wt, .int .i64 x.on, .int .i64 x.v, .int .i64 x.t]
def F2.cs (x : F2) : List Value := [.bool x.b, .int .i64 x.v]
def T7.val (x : T7) : Value := .agg #[.int .i64 x.s, .int .i64 x.l, .int .i64 x.o, .int .i64 x.wt, .int .i64 x.on, .int .i64 x.v, .int .i64 x.t]
def tcells (ts : List T7) : List Value := ts.flatMap T7.cs
def fcells (fs : List F2) : List Value := fs.flatMap F2.cs
def icells (ks : List Int) : List Value := ks.map (Value.int .i64)
instance : Inhabited T7 := ⟨⟨0, 0, 0, 0, 0, 0, 0⟩⟩
instance : Inhabited F2 := ⟨⟨false, 0⟩⟩

theorem tcells_length (ts : List T7) : (tcells ts).length = ts.length * 7 := by
  induction ts with
  | nil => rfl
  | cons x r ih => simp only [tcells, List.flatMap_cons, List.length_append, List.length_cons] at ih ⊢; rw [ih]; simp [T7.cs]; omega
theorem fcells_length (fs : List F2) : (fcells fs).length = fs.length * 2 := by
  induction fs with
  | nil => rfl
  | cons x r ih => simp only [fcells, List.flatMap_cons, List.length_append, List.length_cons] at ih ⊢; rw [ih]; simp [F2.cs]; omega
theorem icells_length (ks : List Int) : (icells ks).length = ks.length := by simp [icells]
theorem tcells_get (ts : List T7) (k : Nat) (hk : k < ts.length) (j : Nat) (hj : j < 7) : (tcells ts)[k * 7 + j]? = ts[k].cs[j]? := by
  induction ts generalizing k with
  | nil => simp at hk
  | cons x r ih =>
    have e : tcells (x :: r) = x.cs ++ tcells r := rfl
    rw [e]
    cases k with
    | zero => rw [List.getElem?_append_left (by simp [T7.cs]; omega)]; simp
    | succ k =>
      have hl : x.cs.length = 7 := rfl
      rw [List.getElem?_append_right (by rw [hl]; omega), hl, show (k + 1) * 7 + j - 7 = k * 7 + j from by omega, ih k (by simpa using hk)]
      simp
theorem fcells_get (fs : List F2) (k : Nat) (hk : k < fs.length) (j : Nat) (hj : j < 2) : (fcells fs)[k * 2 + j]? = fs[k].cs[j]? := by
  induction fs generalizing k with
  | nil => simp at hk
  | cons x r ih =>
    have e : fcells (x :: r) = x.cs ++ fcells r := rfl
    rw [e]
    cases k with
    | zero => rw [List.getElem?_append_left (by simp [F2.cs]; omega)]; simp
    | succ k =>
      have hl : x.cs.length = 2 := rfl
      rw [List.getElem?_append_right (by rw [hl]; omega), hl, show (k + 1) * 2 + j - 2 = k * 2 + j from by omega, ih k (by simpa using hk)]
      simp
theorem icells_get (ks : List Int) (k : Nat) (hk : k < ks.length) : (icells ks)[k]? = some (.int .i64 ks[k]) := by simp [icells, hk]

/-- The cells xs lie behind A, one behind the other. -/
def Row (w : World) (A : Option Addr) (xs : List Value) : Prop :=
  0 < xs.length → ∃ b off : Nat, A = some ⟨b, off, none⟩ ∧ ∀ j u, xs[j]? = some u → w.cell? ⟨b, off + j, none⟩ = some u

section
variable {w w' : World} {A : Option Addr} {xs : List Value}
theorem Row.keep (h : Row w A xs) (hk : ∀ b, b < w.heap.size → w'.heap[b]? = w.heap[b]?) : Row w' A xs := fun hl => by
  obtain ⟨b, off, e, hc⟩ := h hl
  refine ⟨b, off, e, fun j u hu => ?_⟩
  have hb : b < w.heap.size := World.block_lt_of_cell? w _ (hc j u hu)
  exact (World.cell?_of_block (hk b hb)).trans (hc j u hu)
theorem Row.below (h : Row w A xs) (hb : Below w.heap.size w w') : Row w' A xs := h.keep fun b hlt => hb.block b hlt
theorem Row.nil : Row w A [] := fun h => absurd h (by simp)
theorem Row.of_own {base : Nat} {e : TypeId} {size n c : Nat} (h : w.ownsRow base e size (.slice A n c) n xs) : Row w A xs := fun hl => by
  have hn : 0 < n := by
    rcases Nat.eq_zero_or_pos n with h0 | h0
    · subst h0; have := h.1; omega
    · exact h0
  obtain ⟨g, cap, hv, _, hlt⟩ := h.form hn
  have hA : A = some ⟨g, 0, none⟩ := by injection hv
  subst hA
  refine ⟨g, 0, rfl, fun j u hu => ?_⟩
  have := h.cells (g := g) rfl j u hu
  rw [show (⟨g, 0, none⟩ : Addr).add j = ⟨g, 0 + j, none⟩ from by unfold Addr.add; split <;> simp_all] at this
  exact this
theorem Row.t7 {b off : Nat} {ts : List T7} (h : ∀ j u, (tcells ts)[j]? = some u → w.cell? ⟨b, off + j, none⟩ = some u) (k : Nat) (hk : k < ts.length) :
    w.cell? ⟨b, off + k * 7, none⟩ = some (.int .i64 ts[k].s) ∧ w.cell? ⟨b, off + k * 7 + 1, none⟩ = some (.int .i64 ts[k].l) ∧ w.cell? ⟨b, off + k * 7 + 2, none⟩ = some (.int .i64 ts[k].o) ∧
      w.cell? ⟨b, off + k * 7 + 3, none⟩ = some (.int .i64 ts[k].wt) ∧ w.cell? ⟨b, off + k * 7 + 4, none⟩ = some (.int .i64 ts[k].on) ∧ w.cell? ⟨b, off + k * 7 + 5, none⟩ = some (.int .i64 ts[k].v) ∧ w.cell? ⟨b, off + k * 7 + 6, none⟩ = some (.int .i64 ts[k].t) := by
  refine ⟨?_, ?_, ?_, ?_, ?_, ?_, ?_⟩
  · exact h (k * 7 + 0) _ ((tcells_get ts k hk 0 (by omega)).trans rfl)
  · exact h (k * 7 + 1) _ ((tcells_get ts k hk 1 (by omega)).trans rfl)
  · exact h (k * 7 + 2) _ ((tcells_get ts k hk 2 (by omega)).trans rfl)
  · exact h (k * 7 + 3) _ ((tcells_get ts k hk 3 (by omega)).trans rfl)
  · exact h (k * 7 + 4) _ ((tcells_get ts k hk 4 (by omega)).trans rfl)
  · exact h (k * 7 + 5) _ ((tcells_get ts k hk 5 (by omega)).trans rfl)
  · exact h (k * 7 + 6) _ ((tcells_get ts k hk 6 (by omega)).trans rfl)
theorem Row.f2 {b off : Nat} {fs : List F2} (h : ∀ j u, (fcells fs)[j]? = some u → w.cell? ⟨b, off + j, none⟩ = some u) (k : Nat) (hk : k < fs.length) :
    w.cell? ⟨b, off + k * 2, none⟩ = some (.bool fs[k].b) ∧ w.cell? ⟨b, off + k * 2 + 1, none⟩ = some (.int .i64 fs[k].v) := by
  refine ⟨?_, ?_⟩
  · exact h (k * 2 + 0) _ ((fcells_get fs k hk 0 (by omega)).trans rfl)
  · exact h (k * 2 + 1) _ ((fcells_get fs k hk 1 (by omega)).trans rfl)
theorem Row.i1 {b off : Nat} {ks : List Int} (h : ∀ j u, (icells ks)[j]? = some u → w.cell? ⟨b, off + j, none⟩ = some u) (k : Nat) (hk : k < ks.length) :
    w.cell? ⟨b, off + k, none⟩ = some (.int .i64 ks[k]) := h k _ (icells_get ks k hk)
/-- Task k behind a slice that is not empty: where it lies, and its seven cells. -/
theorem Row.ts_at {ts : List T7} (h : Row w A (tcells ts)) {k : Nat} (hk : k < ts.length) : ∃ (b off : Nat) (s l o wt on v t : Int), A = some ⟨b, off, none⟩ ∧ ts.drop k = ⟨s, l, o, wt, on, v, t⟩ :: ts.drop (k + 1) ∧ ts[k]? = some ⟨s, l, o, wt, on, v, t⟩ ∧ b < w.heap.size ∧
    w.cell? ⟨b, off + k * 7, none⟩ = some (.int .i64 s) ∧ w.cell? ⟨b, off + k * 7 + 1, none⟩ = some (.int .i64 l) ∧ w.cell? ⟨b, off + k * 7 + 2, none⟩ = some (.int .i64 o) ∧
      w.cell? ⟨b, off + k * 7 + 3, none⟩ = some (.int .i64 wt) ∧ w.cell? ⟨b, off + k * 7 + 4, none⟩ = some (.int .i64 on) ∧ w.cell? ⟨b, off + k * 7 + 5, none⟩ = some (.int .i64 v) ∧ w.cell? ⟨b, off + k * 7 + 6, none⟩ = some (.int .i64 t) := by
  obtain ⟨b, off, e, hc⟩ := h (by rw [tcells_length]; omega)
  have hz := Row.t7 hc k hk
  exact ⟨b, off, _, _, _, _, _, _, _, e, (List.drop_eq_getElem_cons hk), by simp [hk], World.block_lt_of_cell? w _ hz.1, hz⟩
theorem Row.fs_at {fs : List F2} (h : Row w A (fcells fs)) {k : Nat} (hk : k < fs.length) : ∃ (b off : Nat) (s : Bool) (v : Int), A = some ⟨b, off, none⟩ ∧ fs.drop k = ⟨s, v⟩ :: fs.drop (k + 1) ∧ fs[k]? = some ⟨s, v⟩ ∧ b < w.heap.size ∧
    w.cell? ⟨b, off + k * 2, none⟩ = some (.bool s) ∧ w.cell? ⟨b, off + k * 2 + 1, none⟩ = some (.int .i64 v) := by
  obtain ⟨b, off, e, hc⟩ := h (by rw [fcells_length]; omega)
  have hz := Row.f2 hc k hk
  exact ⟨b, off, _, _, e, (List.drop_eq_getElem_cons hk), by simp [hk], World.block_lt_of_cell? w _ hz.1, hz⟩
theorem Row.ks_at {ks : List Int} (h : Row w A (icells ks)) {k : Nat} (hk : k < ks.length) : ∃ (b off : Nat) (v : Int), A = some ⟨b, off, none⟩ ∧ ks.drop k = v :: ks.drop (k + 1) ∧ ks[k]? = some v ∧ b < w.heap.size ∧
    w.cell? ⟨b, off + k, none⟩ = some (.int .i64 v) := by
  obtain ⟨b, off, e, hc⟩ := h (by rw [icells_length]; omega)
  have hz := Row.i1 hc k hk
  exact ⟨b, off, _, e, (List.drop_eq_getElem_cons hk), by simp [hk], World.block_lt_of_cell? w _ hz, hz⟩
end
end Go.Proofs.Ytgbckcidmojnoaa
