/- A store into one field of a task of a row. No condition. -/
import Derived.Test.YtgbckcidmojnoaaPoolW
namespace Go.Proofs.Ytgbckcidmojnoaa
open Go.RowKit
set_option linter.unusedVariables false

theorem set_same {l : List Value} {i : Nat} {x : Value} (h : l[i]? = some x) : l.set i x = l := by
  apply List.ext_getElem?
  intro j
  rw [List.getElem?_set]
  by_cases hij : i = j
  · subst hij
    have hl : i < l.length := by
      rcases Nat.lt_or_ge i l.length with h1 | h1
      · exact h1
      · rw [List.getElem?_eq_none h1] at h; cases h
    rw [h]; simp [hl]
  · simp [hij]
theorem tcells_of {us : List T7} {k : Nat} {x : T7} (h : us[k]? = some x) (j : Nat) (hj : j < 7) : (tcells us)[k * 7 + j]? = x.cs[j]? := by
  rw [tcells_at, show (k * 7 + j) / 7 = k from by omega, show (k * 7 + j) % 7 = j from by omega, h]; rfl
theorem tput_s (us : List T7) (k : Nat) (s l o wt on v t x : Int) (h : us[k]? = some ⟨s, l, o, wt, on, v, t⟩) : (tcells us).set (k * 7) (.int .i64 x) = tcells (us.set k ⟨x, l, o, wt, on, v, t⟩) := by
  rw [← tcells_put]
  rw [set_same (i := k * 7 + 1) (l := (tcells us).set (k * 7) (.int .i64 x)) (by rw [List.getElem?_set_ne (by omega)]; exact tcells_of h 1 (by omega))]
  rw [set_same (i := k * 7 + 2) (l := (tcells us).set (k * 7) (.int .i64 x)) (by rw [List.getElem?_set_ne (by omega)]; exact tcells_of h 2 (by omega))]
  rw [set_same (i := k * 7 + 3) (l := (tcells us).set (k * 7) (.int .i64 x)) (by rw [List.getElem?_set_ne (by omega)]; exact tcells_of h 3 (by omega))]
  rw [set_same (i := k * 7 + 4) (l := (tcells us).set (k * 7) (.int .i64 x)) (by rw [List.getElem?_set_ne (by omega)]; exact tcells_of h 4 (by omega))]
  rw [set_same (i := k * 7 + 5) (l := (tcells us).set (k * 7) (.int .i64 x)) (by rw [List.getElem?_set_ne (by omega)]; exact tcells_of h 5 (by omega))]
  rw [set_same (i := k * 7 + 6) (l := (tcells us).set (k * 7) (.int .i64 x)) (by rw [List.getElem?_set_ne (by omega)]; exact tcells_of h 6 (by omega))]
theorem Own.put_s {w : World} {base : Nat} {e : TypeId} {g n c : Nat} {us : List T7} (h : w.ownsRow base e 7 (.slice (some ⟨g, 0, none⟩) n c) n (tcells us)) (k : Nat) (s l o wt on v t x : Int) (hk : us[k]? = some ⟨s, l, o, wt, on, v, t⟩) :
    (w.setCell ⟨g, k * 7, none⟩ (.int .i64 x)).ownsRow base e 7 (.slice (some ⟨g, 0, none⟩) n c) n (tcells (us.set k ⟨x, l, o, wt, on, v, t⟩)) := by
  rw [← tput_s us k s l o wt on v t x hk]
  exact (h.stored (k * 7) _).1
theorem tput_l (us : List T7) (k : Nat) (s l o wt on v t x : Int) (h : us[k]? = some ⟨s, l, o, wt, on, v, t⟩) : (tcells us).set (k * 7 + 1) (.int .i64 x) = tcells (us.set k ⟨s, x, o, wt, on, v, t⟩) := by
  rw [← tcells_put]
  rw [set_same (i := k * 7) (l := tcells us) (tcells_of h 0 (by omega))]
  rw [set_same (i := k * 7 + 2) (l := (tcells us).set (k * 7 + 1) (.int .i64 x)) (by rw [List.getElem?_set_ne (by omega)]; exact tcells_of h 2 (by omega))]
  rw [set_same (i := k * 7 + 3) (l := (tcells us).set (k * 7 + 1) (.int .i64 x)) (by rw [List.getElem?_set_ne (by omega)]; exact tcells_of h 3 (by omega))]
  rw [set_same (i := k * 7 + 4) (l := (tcells us).set (k * 7 + 1) (.int .i64 x)) (by rw [List.getElem?_set_ne (by omega)]; exact tcells_of h 4 (by omega))]
  rw [set_same (i := k * 7 + 5) (l := (tcells us).set (k * 7 + 1) (.int .i64 x)) (by rw [List.getElem?_set_ne (by omega)]; exact tcells_of h 5 (by omega))]
  rw [set_same (i := k * 7 + 6) (l := (tcells us).set (k * 7 + 1) (.int .i64 x)) (by rw [List.getElem?_set_ne (by omega)]; exact tcells_of h 6 (by omega))]
theorem Own.put_l {w : World} {base : Nat} {e : TypeId} {g n c : Nat} {us : List T7} (h : w.ownsRow base e 7 (.slice (some ⟨g, 0, none⟩) n c) n (tcells us)) (k : Nat) (s l o wt on v t x : Int) (hk : us[k]? = some ⟨s, l, o, wt, on, v, t⟩) :
    (w.setCell ⟨g, k * 7 + 1, none⟩ (.int .i64 x)).ownsRow base e 7 (.slice (some ⟨g, 0, none⟩) n c) n (tcells (us.set k ⟨s, x, o, wt, on, v, t⟩)) := by
  rw [← tput_l us k s l o wt on v t x hk]
  exact (h.stored (k * 7 + 1) _).1
theorem tput_o (us : List T7) (k : Nat) (s l o wt on v t x : Int) (h : us[k]? = some ⟨s, l, o, wt, on, v, t⟩) : (tcells us).set (k * 7 + 2) (.int .i64 x) = tcells (us.set k ⟨s, l, x, wt, on, v, t⟩) := by
  rw [← tcells_put]
  rw [set_same (i := k * 7) (l := tcells us) (tcells_of h 0 (by omega))]
  rw [set_same (i := k * 7 + 1) (l := tcells us) (tcells_of h 1 (by omega))]
  rw [set_same (i := k * 7 + 3) (l := (tcells us).set (k * 7 + 2) (.int .i64 x)) (by rw [List.getElem?_set_ne (by omega)]; exact tcells_of h 3 (by omega))]
  rw [set_same (i := k * 7 + 4) (l := (tcells us).set (k * 7 + 2) (.int .i64 x)) (by rw [List.getElem?_set_ne (by omega)]; exact tcells_of h 4 (by omega))]
  rw [set_same (i := k * 7 + 5) (l := (tcells us).set (k * 7 + 2) (.int .i64 x)) (by rw [List.getElem?_set_ne (by omega)]; exact tcells_of h 5 (by omega))]
  rw [set_same (i := k * 7 + 6) (l := (tcells us).set (k * 7 + 2) (.int .i64 x)) (by rw [List.getElem?_set_ne (by omega)]; exact tcells_of h 6 (by omega))]
theorem Own.put_o {w : World} {base : Nat} {e : TypeId} {g n c : Nat} {us : List T7} (h : w.ownsRow base e 7 (.slice (some ⟨g, 0, none⟩) n c) n (tcells us)) (k : Nat) (s l o wt on v t x : Int) (hk : us[k]? = some ⟨s, l, o, wt, on, v, t⟩) :
    (w.setCell ⟨g, k * 7 + 2, none⟩ (.int .i64 x)).ownsRow base e 7 (.slice (some ⟨g, 0, none⟩) n c) n (tcells (us.set k ⟨s, l, x, wt, on, v, t⟩)) := by
  rw [← tput_o us k s l o wt on v t x hk]
  exact (h.stored (k * 7 + 2) _).1
theorem tput_wt (us : List T7) (k : Nat) (s l o wt on v t x : Int) (h : us[k]? = some ⟨s, l, o, wt, on, v, t⟩) : (tcells us).set (k * 7 + 3) (.int .i64 x) = tcells (us.set k ⟨s, l, o, x, on, v, t⟩) := by
  rw [← tcells_put]
  rw [set_same (i := k * 7) (l := tcells us) (tcells_of h 0 (by omega))]
  rw [set_same (i := k * 7 + 1) (l := tcells us) (tcells_of h 1 (by omega))]
  rw [set_same (i := k * 7 + 2) (l := tcells us) (tcells_of h 2 (by omega))]
  rw [set_same (i := k * 7 + 4) (l := (tcells us).set (k * 7 + 3) (.int .i64 x)) (by rw [List.getElem?_set_ne (by omega)]; exact tcells_of h 4 (by omega))]
  rw [set_same (i := k * 7 + 5) (l := (tcells us).set (k * 7 + 3) (.int .i64 x)) (by rw [List.getElem?_set_ne (by omega)]; exact tcells_of h 5 (by omega))]
  rw [set_same (i := k * 7 + 6) (l := (tcells us).set (k * 7 + 3) (.int .i64 x)) (by rw [List.getElem?_set_ne (by omega)]; exact tcells_of h 6 (by omega))]
theorem Own.put_wt {w : World} {base : Nat} {e : TypeId} {g n c : Nat} {us : List T7} (h : w.ownsRow base e 7 (.slice (some ⟨g, 0, none⟩) n c) n (tcells us)) (k : Nat) (s l o wt on v t x : Int) (hk : us[k]? = some ⟨s, l, o, wt, on, v, t⟩) :
    (w.setCell ⟨g, k * 7 + 3, none⟩ (.int .i64 x)).ownsRow base e 7 (.slice (some ⟨g, 0, none⟩) n c) n (tcells (us.set k ⟨s, l, o, x, on, v, t⟩)) := by
  rw [← tput_wt us k s l o wt on v t x hk]
  exact (h.stored (k * 7 + 3) _).1
theorem tput_on (us : List T7) (k : Nat) (s l o wt on v t x : Int) (h : us[k]? = some ⟨s, l, o, wt, on, v, t⟩) : (tcells us).set (k * 7 + 4) (.int .i64 x) = tcells (us.set k ⟨s, l, o, wt, x, v, t⟩) := by
  rw [← tcells_put]
  rw [set_same (i := k * 7) (l := tcells us) (tcells_of h 0 (by omega))]
  rw [set_same (i := k * 7 + 1) (l := tcells us) (tcells_of h 1 (by omega))]
  rw [set_same (i := k * 7 + 2) (l := tcells us) (tcells_of h 2 (by omega))]
  rw [set_same (i := k * 7 + 3) (l := tcells us) (tcells_of h 3 (by omega))]
  rw [set_same (i := k * 7 + 5) (l := (tcells us).set (k * 7 + 4) (.int .i64 x)) (by rw [List.getElem?_set_ne (by omega)]; exact tcells_of h 5 (by omega))]
  rw [set_same (i := k * 7 + 6) (l := (tcells us).set (k * 7 + 4) (.int .i64 x)) (by rw [List.getElem?_set_ne (by omega)]; exact tcells_of h 6 (by omega))]
theorem Own.put_on {w : World} {base : Nat} {e : TypeId} {g n c : Nat} {us : List T7} (h : w.ownsRow base e 7 (.slice (some ⟨g, 0, none⟩) n c) n (tcells us)) (k : Nat) (s l o wt on v t x : Int) (hk : us[k]? = some ⟨s, l, o, wt, on, v, t⟩) :
    (w.setCell ⟨g, k * 7 + 4, none⟩ (.int .i64 x)).ownsRow base e 7 (.slice (some ⟨g, 0, none⟩) n c) n (tcells (us.set k ⟨s, l, o, wt, x, v, t⟩)) := by
  rw [← tput_on us k s l o wt on v t x hk]
  exact (h.stored (k * 7 + 4) _).1
theorem tput_v (us : List T7) (k : Nat) (s l o wt on v t x : Int) (h : us[k]? = some ⟨s, l, o, wt, on, v, t⟩) : (tcells us).set (k * 7 + 5) (.int .i64 x) = tcells (us.set k ⟨s, l, o, wt, on, x, t⟩) := by
  rw [← tcells_put]
  rw [set_same (i := k * 7) (l := tcells us) (tcells_of h 0 (by omega))]
  rw [set_same (i := k * 7 + 1) (l := tcells us) (tcells_of h 1 (by omega))]
  rw [set_same (i := k * 7 + 2) (l := tcells us) (tcells_of h 2 (by omega))]
  rw [set_same (i := k * 7 + 3) (l := tcells us) (tcells_of h 3 (by omega))]
  rw [set_same (i := k * 7 + 4) (l := tcells us) (tcells_of h 4 (by omega))]
  rw [set_same (i := k * 7 + 6) (l := (tcells us).set (k * 7 + 5) (.int .i64 x)) (by rw [List.getElem?_set_ne (by omega)]; exact tcells_of h 6 (by omega))]
theorem Own.put_v {w : World} {base : Nat} {e : TypeId} {g n c : Nat} {us : List T7} (h : w.ownsRow base e 7 (.slice (some ⟨g, 0, none⟩) n c) n (tcells us)) (k : Nat) (s l o wt on v t x : Int) (hk : us[k]? = some ⟨s, l, o, wt, on, v, t⟩) :
    (w.setCell ⟨g, k * 7 + 5, none⟩ (.int .i64 x)).ownsRow base e 7 (.slice (some ⟨g, 0, none⟩) n c) n (tcells (us.set k ⟨s, l, o, wt, on, x, t⟩)) := by
  rw [← tput_v us k s l o wt on v t x hk]
  exact (h.stored (k * 7 + 5) _).1
theorem tput_t (us : List T7) (k : Nat) (s l o wt on v t x : Int) (h : us[k]? = some ⟨s, l, o, wt, on, v, t⟩) : (tcells us).set (k * 7 + 6) (.int .i64 x) = tcells (us.set k ⟨s, l, o, wt, on, v, x⟩) := by
  rw [← tcells_put]
  rw [set_same (i := k * 7) (l := tcells us) (tcells_of h 0 (by omega))]
  rw [set_same (i := k * 7 + 1) (l := tcells us) (tcells_of h 1 (by omega))]
  rw [set_same (i := k * 7 + 2) (l := tcells us) (tcells_of h 2 (by omega))]
  rw [set_same (i := k * 7 + 3) (l := tcells us) (tcells_of h 3 (by omega))]
  rw [set_same (i := k * 7 + 4) (l := tcells us) (tcells_of h 4 (by omega))]
  rw [set_same (i := k * 7 + 5) (l := tcells us) (tcells_of h 5 (by omega))]
theorem Own.put_t {w : World} {base : Nat} {e : TypeId} {g n c : Nat} {us : List T7} (h : w.ownsRow base e 7 (.slice (some ⟨g, 0, none⟩) n c) n (tcells us)) (k : Nat) (s l o wt on v t x : Int) (hk : us[k]? = some ⟨s, l, o, wt, on, v, t⟩) :
    (w.setCell ⟨g, k * 7 + 6, none⟩ (.int .i64 x)).ownsRow base e 7 (.slice (some ⟨g, 0, none⟩) n c) n (tcells (us.set k ⟨s, l, o, wt, on, v, x⟩)) := by
  rw [← tput_t us k s l o wt on v t x hk]
  exact (h.stored (k * 7 + 6) _).1
end Go.Proofs.Ytgbckcidmojnoaa
