/- RunBy and CountOf of program and model: the first running task of an owner; how many are in a state; what was in memory stays as it was. No condition but that the list is no longer than what a machine holds. -/
import Derived.Test.YtfjgelegojbmgaaGreatQB04
import Derived.Test.YtfjgelegojbmgaaGreatQB02
import Derived.Deep.RegionLaw
import Derived.Test.YtfjgelegojbmgaaGreatQB01

namespace Go.Proofs.YtfjgelegojbmgaaGreat
open Go.RowKit
set_option linter.unusedVariables false
theorem Sep.f1 {S : List Nat} {w W : World} {rs : List Res} (h : Sep S w W rs) (i : Nat) {g : Nat} {t : TypeId} {v0 : Value} (hi : rs[i]? = some (.blk g t #[v0])) : g < W.heap.size ∧ W.cell? ⟨g, 0, none⟩ = some v0 ∧ W.frozen? ⟨g, 0, none⟩ = false :=
 ⟨h.lt i hi, h.cell i 0 hi, h.fz i 0 hi⟩
theorem Sep.q1 {S : List Nat} {w W : World} {rs : List Res} (h : Sep S w W rs) (i : Nat) {g : Nat} {t : TypeId} {v0 : Value} (hi : rs[i]? = some (.blk g t #[v0])) : g < W.heap.size ∧ W.cell? ⟨g, 0, none⟩ = some v0 :=
 ⟨h.lt i hi, h.cell i 0 hi⟩
theorem Sep.f2 {S : List Nat} {w W : World} {rs : List Res} (h : Sep S w W rs) (i : Nat) {g : Nat} {t : TypeId} {v0 v1 : Value} (hi : rs[i]? = some (.blk g t #[v0, v1])) : g < W.heap.size ∧ W.cell? ⟨g, 0, none⟩ = some v0 ∧ W.frozen? ⟨g, 0, none⟩ = false ∧ W.cell? ⟨g, 1, none⟩ = some v1 ∧ W.frozen? ⟨g, 1, none⟩ = false :=
 ⟨h.lt i hi, h.cell i 0 hi, h.fz i 0 hi, h.cell i 1 hi, h.fz i 1 hi⟩
theorem Sep.q2 {S : List Nat} {w W : World} {rs : List Res} (h : Sep S w W rs) (i : Nat) {g : Nat} {t : TypeId} {v0 v1 : Value} (hi : rs[i]? = some (.blk g t #[v0, v1])) : g < W.heap.size ∧ W.cell? ⟨g, 0, none⟩ = some v0 ∧ W.cell? ⟨g, 1, none⟩ = some v1 :=
 ⟨h.lt i hi, h.cell i 0 hi, h.cell i 1 hi⟩
theorem Sep.f3 {S : List Nat} {w W : World} {rs : List Res} (h : Sep S w W rs) (i : Nat) {g : Nat} {t : TypeId} {v0 v1 v2 : Value} (hi : rs[i]? = some (.blk g t #[v0, v1, v2])) : g < W.heap.size ∧ W.cell? ⟨g, 0, none⟩ = some v0 ∧ W.frozen? ⟨g, 0, none⟩ = false ∧ W.cell? ⟨g, 1, none⟩ = some v1 ∧ W.frozen? ⟨g, 1, none⟩ = false ∧ W.cell? ⟨g, 2, none⟩ = some v2 ∧ W.frozen? ⟨g, 2, none⟩ = false :=
 ⟨h.lt i hi, h.cell i 0 hi, h.fz i 0 hi, h.cell i 1 hi, h.fz i 1 hi, h.cell i 2 hi, h.fz i 2 hi⟩
theorem Sep.q3 {S : List Nat} {w W : World} {rs : List Res} (h : Sep S w W rs) (i : Nat) {g : Nat} {t : TypeId} {v0 v1 v2 : Value} (hi : rs[i]? = some (.blk g t #[v0, v1, v2])) : g < W.heap.size ∧ W.cell? ⟨g, 0, none⟩ = some v0 ∧ W.cell? ⟨g, 1, none⟩ = some v1 ∧ W.cell? ⟨g, 2, none⟩ = some v2 :=
 ⟨h.lt i hi, h.cell i 0 hi, h.cell i 1 hi, h.cell i 2 hi⟩
theorem Sep.f4 {S : List Nat} {w W : World} {rs : List Res} (h : Sep S w W rs) (i : Nat) {g : Nat} {t : TypeId} {v0 v1 v2 v3 : Value} (hi : rs[i]? = some (.blk g t #[v0, v1, v2, v3])) : g < W.heap.size ∧ W.cell? ⟨g, 0, none⟩ = some v0 ∧ W.frozen? ⟨g, 0, none⟩ = false ∧ W.cell? ⟨g, 1, none⟩ = some v1 ∧ W.frozen? ⟨g, 1, none⟩ = false ∧ W.cell? ⟨g, 2, none⟩ = some v2 ∧ W.frozen? ⟨g, 2, none⟩ = false ∧ W.cell? ⟨g, 3, none⟩ = some v3 ∧ W.frozen? ⟨g, 3, none⟩ = false :=
 ⟨h.lt i hi, h.cell i 0 hi, h.fz i 0 hi, h.cell i 1 hi, h.fz i 1 hi, h.cell i 2 hi, h.fz i 2 hi, h.cell i 3 hi, h.fz i 3 hi⟩
theorem Sep.q4 {S : List Nat} {w W : World} {rs : List Res} (h : Sep S w W rs) (i : Nat) {g : Nat} {t : TypeId} {v0 v1 v2 v3 : Value} (hi : rs[i]? = some (.blk g t #[v0, v1, v2, v3])) : g < W.heap.size ∧ W.cell? ⟨g, 0, none⟩ = some v0 ∧ W.cell? ⟨g, 1, none⟩ = some v1 ∧ W.cell? ⟨g, 2, none⟩ = some v2 ∧ W.cell? ⟨g, 3, none⟩ = some v3 :=
 ⟨h.lt i hi, h.cell i 0 hi, h.cell i 1 hi, h.cell i 2 hi, h.cell i 3 hi⟩
theorem Sep.f5 {S : List Nat} {w W : World} {rs : List Res} (h : Sep S w W rs) (i : Nat) {g : Nat} {t : TypeId} {v0 v1 v2 v3 v4 : Value} (hi : rs[i]? = some (.blk g t #[v0, v1, v2, v3, v4])) : g < W.heap.size ∧ W.cell? ⟨g, 0, none⟩ = some v0 ∧ W.frozen? ⟨g, 0, none⟩ = false ∧ W.cell? ⟨g, 1, none⟩ = some v1 ∧ W.frozen? ⟨g, 1, none⟩ = false ∧ W.cell? ⟨g, 2, none⟩ = some v2 ∧ W.frozen? ⟨g, 2, none⟩ = false ∧ W.cell? ⟨g, 3, none⟩ = some v3 ∧ W.frozen? ⟨g, 3, none⟩ = false ∧ W.cell? ⟨g, 4, none⟩ = some v4 ∧ W.frozen? ⟨g, 4, none⟩ = false :=
 ⟨h.lt i hi, h.cell i 0 hi, h.fz i 0 hi, h.cell i 1 hi, h.fz i 1 hi, h.cell i 2 hi, h.fz i 2 hi, h.cell i 3 hi, h.fz i 3 hi, h.cell i 4 hi, h.fz i 4 hi⟩
theorem Sep.q5 {S : List Nat} {w W : World} {rs : List Res} (h : Sep S w W rs) (i : Nat) {g : Nat} {t : TypeId} {v0 v1 v2 v3 v4 : Value} (hi : rs[i]? = some (.blk g t #[v0, v1, v2, v3, v4])) : g < W.heap.size ∧ W.cell? ⟨g, 0, none⟩ = some v0 ∧ W.cell? ⟨g, 1, none⟩ = some v1 ∧ W.cell? ⟨g, 2, none⟩ = some v2 ∧ W.cell? ⟨g, 3, none⟩ = some v3 ∧ W.cell? ⟨g, 4, none⟩ = some v4 :=
 ⟨h.lt i hi, h.cell i 0 hi, h.cell i 1 hi, h.cell i 2 hi, h.cell i 3 hi, h.cell i 4 hi⟩
theorem Sep.f6 {S : List Nat} {w W : World} {rs : List Res} (h : Sep S w W rs) (i : Nat) {g : Nat} {t : TypeId} {v0 v1 v2 v3 v4 v5 : Value} (hi : rs[i]? = some (.blk g t #[v0, v1, v2, v3, v4, v5])) : g < W.heap.size ∧ W.cell? ⟨g, 0, none⟩ = some v0 ∧ W.frozen? ⟨g, 0, none⟩ = false ∧ W.cell? ⟨g, 1, none⟩ = some v1 ∧ W.frozen? ⟨g, 1, none⟩ = false ∧ W.cell? ⟨g, 2, none⟩ = some v2 ∧ W.frozen? ⟨g, 2, none⟩ = false ∧ W.cell? ⟨g, 3, none⟩ = some v3 ∧ W.frozen? ⟨g, 3, none⟩ = false ∧ W.cell? ⟨g, 4, none⟩ = some v4 ∧ W.frozen? ⟨g, 4, none⟩ = false ∧ W.cell? ⟨g, 5, none⟩ = some v5 ∧ W.frozen? ⟨g, 5, none⟩ = false :=
 ⟨h.lt i hi, h.cell i 0 hi, h.fz i 0 hi, h.cell i 1 hi, h.fz i 1 hi, h.cell i 2 hi, h.fz i 2 hi, h.cell i 3 hi, h.fz i 3 hi, h.cell i 4 hi, h.fz i 4 hi, h.cell i 5 hi, h.fz i 5 hi⟩
theorem Sep.q6 {S : List Nat} {w W : World} {rs : List Res} (h : Sep S w W rs) (i : Nat) {g : Nat} {t : TypeId} {v0 v1 v2 v3 v4 v5 : Value} (hi : rs[i]? = some (.blk g t #[v0, v1, v2, v3, v4, v5])) : g < W.heap.size ∧ W.cell? ⟨g, 0, none⟩ = some v0 ∧ W.cell? ⟨g, 1, none⟩ = some v1 ∧ W.cell? ⟨g, 2, none⟩ = some v2 ∧ W.cell? ⟨g, 3, none⟩ = some v3 ∧ W.cell? ⟨g, 4, none⟩ = some v4 ∧ W.cell? ⟨g, 5, none⟩ = some v5 :=
 ⟨h.lt i hi, h.cell i 0 hi, h.cell i 1 hi, h.cell i 2 hi, h.cell i 3 hi, h.cell i 4 hi, h.cell i 5 hi⟩
theorem Sep.f7 {S : List Nat} {w W : World} {rs : List Res} (h : Sep S w W rs) (i : Nat) {g : Nat} {t : TypeId} {v0 v1 v2 v3 v4 v5 v6 : Value} (hi : rs[i]? = some (.blk g t #[v0, v1, v2, v3, v4, v5, v6])) : g < W.heap.size ∧ W.cell? ⟨g, 0, none⟩ = some v0 ∧ W.frozen? ⟨g, 0, none⟩ = false ∧ W.cell? ⟨g, 1, none⟩ = some v1 ∧ W.frozen? ⟨g, 1, none⟩ = false ∧ W.cell? ⟨g, 2, none⟩ = some v2 ∧ W.frozen? ⟨g, 2, none⟩ = false ∧ W.cell? ⟨g, 3, none⟩ = some v3 ∧ W.frozen? ⟨g, 3, none⟩ = false ∧ W.cell? ⟨g, 4, none⟩ = some v4 ∧ W.frozen? ⟨g, 4, none⟩ = false ∧ W.cell? ⟨g, 5, none⟩ = some v5 ∧ W.frozen? ⟨g, 5, none⟩ = false ∧ W.cell? ⟨g, 6, none⟩ = some v6 ∧ W.frozen? ⟨g, 6, none⟩ = false :=
 ⟨h.lt i hi, h.cell i 0 hi, h.fz i 0 hi, h.cell i 1 hi, h.fz i 1 hi, h.cell i 2 hi, h.fz i 2 hi, h.cell i 3 hi, h.fz i 3 hi, h.cell i 4 hi, h.fz i 4 hi, h.cell i 5 hi, h.fz i 5 hi, h.cell i 6 hi, h.fz i 6 hi⟩
theorem Sep.q7 {S : List Nat} {w W : World} {rs : List Res} (h : Sep S w W rs) (i : Nat) {g : Nat} {t : TypeId} {v0 v1 v2 v3 v4 v5 v6 : Value} (hi : rs[i]? = some (.blk g t #[v0, v1, v2, v3, v4, v5, v6])) : g < W.heap.size ∧ W.cell? ⟨g, 0, none⟩ = some v0 ∧ W.cell? ⟨g, 1, none⟩ = some v1 ∧ W.cell? ⟨g, 2, none⟩ = some v2 ∧ W.cell? ⟨g, 3, none⟩ = some v3 ∧ W.cell? ⟨g, 4, none⟩ = some v4 ∧ W.cell? ⟨g, 5, none⟩ = some v5 ∧ W.cell? ⟨g, 6, none⟩ = some v6 :=
 ⟨h.lt i hi, h.cell i 0 hi, h.cell i 1 hi, h.cell i 2 hi, h.cell i 3 hi, h.cell i 4 hi, h.cell i 5 hi, h.cell i 6 hi⟩
theorem Sep.f8 {S : List Nat} {w W : World} {rs : List Res} (h : Sep S w W rs) (i : Nat) {g : Nat} {t : TypeId} {v0 v1 v2 v3 v4 v5 v6 v7 : Value} (hi : rs[i]? = some (.blk g t #[v0, v1, v2, v3, v4, v5, v6, v7])) : g < W.heap.size ∧ W.cell? ⟨g, 0, none⟩ = some v0 ∧ W.frozen? ⟨g, 0, none⟩ = false ∧ W.cell? ⟨g, 1, none⟩ = some v1 ∧ W.frozen? ⟨g, 1, none⟩ = false ∧ W.cell? ⟨g, 2, none⟩ = some v2 ∧ W.frozen? ⟨g, 2, none⟩ = false ∧ W.cell? ⟨g, 3, none⟩ = some v3 ∧ W.frozen? ⟨g, 3, none⟩ = false ∧ W.cell? ⟨g, 4, none⟩ = some v4 ∧ W.frozen? ⟨g, 4, none⟩ = false ∧ W.cell? ⟨g, 5, none⟩ = some v5 ∧ W.frozen? ⟨g, 5, none⟩ = false ∧ W.cell? ⟨g, 6, none⟩ = some v6 ∧ W.frozen? ⟨g, 6, none⟩ = false ∧ W.cell? ⟨g, 7, none⟩ = some v7 ∧ W.frozen? ⟨g, 7, none⟩ = false :=
 ⟨h.lt i hi, h.cell i 0 hi, h.fz i 0 hi, h.cell i 1 hi, h.fz i 1 hi, h.cell i 2 hi, h.fz i 2 hi, h.cell i 3 hi, h.fz i 3 hi, h.cell i 4 hi, h.fz i 4 hi, h.cell i 5 hi, h.fz i 5 hi, h.cell i 6 hi, h.fz i 6 hi, h.cell i 7 hi, h.fz i 7 hi⟩
theorem Sep.q8 {S : List Nat} {w W : World} {rs : List Res} (h : Sep S w W rs) (i : Nat) {g : Nat} {t : TypeId} {v0 v1 v2 v3 v4 v5 v6 v7 : Value} (hi : rs[i]? = some (.blk g t #[v0, v1, v2, v3, v4, v5, v6, v7])) : g < W.heap.size ∧ W.cell? ⟨g, 0, none⟩ = some v0 ∧ W.cell? ⟨g, 1, none⟩ = some v1 ∧ W.cell? ⟨g, 2, none⟩ = some v2 ∧ W.cell? ⟨g, 3, none⟩ = some v3 ∧ W.cell? ⟨g, 4, none⟩ = some v4 ∧ W.cell? ⟨g, 5, none⟩ = some v5 ∧ W.cell? ⟨g, 6, none⟩ = some v6 ∧ W.cell? ⟨g, 7, none⟩ = some v7 :=
 ⟨h.lt i hi, h.cell i 0 hi, h.cell i 1 hi, h.cell i 2 hi, h.cell i 3 hi, h.cell i 4 hi, h.cell i 5 hi, h.cell i 6 hi, h.cell i 7 hi⟩
theorem Sep.gset1 {S : List Nat} {w W : World} {rs : List Res} (h : Sep S w W rs) (i : Nat) {g : Nat} {t : TypeId} {x0 : Value} (hi : rs[i]? = some (.blk g t #[x0])) (v0 : Value) : ∃ W', (W.setCell ⟨g, 0, none⟩ v0) = W' ∧ Sep S w W' (rs.set i (.blk g t #[v0])) := by
 have hl : i < rs.length := by
  rcases Nat.lt_or_ge i rs.length with h1 | h1
  ·exact h1
  ·rw [List.getElem?_eq_none h1] at hi; cases hi
 have h2 := (h.set i hi 0 v0)
 exact ⟨_, rfl, h2⟩
theorem Sep.gset2 {S : List Nat} {w W : World} {rs : List Res} (h : Sep S w W rs) (i : Nat) {g : Nat} {t : TypeId} {x0 x1 : Value} (hi : rs[i]? = some (.blk g t #[x0, x1])) (v0 v1 : Value) : ∃ W', ((W.setCell ⟨g, 0, none⟩ v0).setCell ⟨g, 1, none⟩ v1) = W' ∧ Sep S w W' (rs.set i (.blk g t #[v0, v1])) := by
 have hl : i < rs.length := by
  rcases Nat.lt_or_ge i rs.length with h1 | h1
  ·exact h1
  ·rw [List.getElem?_eq_none h1] at hi; cases hi
 have h2 := ((h.set i hi 0 v0).set i (List.getElem?_set_self (by simpa using hl)) 1 v1)
 simp only [List.set_set] at h2
 exact ⟨_, rfl, h2⟩
theorem Sep.gset3 {S : List Nat} {w W : World} {rs : List Res} (h : Sep S w W rs) (i : Nat) {g : Nat} {t : TypeId} {x0 x1 x2 : Value} (hi : rs[i]? = some (.blk g t #[x0, x1, x2])) (v0 v1 v2 : Value) : ∃ W', (((W.setCell ⟨g, 0, none⟩ v0).setCell ⟨g, 1, none⟩ v1).setCell ⟨g, 2, none⟩ v2) = W' ∧ Sep S w W' (rs.set i (.blk g t #[v0, v1, v2])) := by
 have hl : i < rs.length := by
  rcases Nat.lt_or_ge i rs.length with h1 | h1
  ·exact h1
  ·rw [List.getElem?_eq_none h1] at hi; cases hi
 have h2 := (((h.set i hi 0 v0).set i (List.getElem?_set_self (by simpa using hl)) 1 v1).set i (List.getElem?_set_self (by simpa using hl)) 2 v2)
 simp only [List.set_set] at h2
 exact ⟨_, rfl, h2⟩
theorem Sep.gset4 {S : List Nat} {w W : World} {rs : List Res} (h : Sep S w W rs) (i : Nat) {g : Nat} {t : TypeId} {x0 x1 x2 x3 : Value} (hi : rs[i]? = some (.blk g t #[x0, x1, x2, x3])) (v0 v1 v2 v3 : Value) : ∃ W', ((((W.setCell ⟨g, 0, none⟩ v0).setCell ⟨g, 1, none⟩ v1).setCell ⟨g, 2, none⟩ v2).setCell ⟨g, 3, none⟩ v3) = W' ∧ Sep S w W' (rs.set i (.blk g t #[v0, v1, v2, v3])) := by
 have hl : i < rs.length := by
  rcases Nat.lt_or_ge i rs.length with h1 | h1
  ·exact h1
  ·rw [List.getElem?_eq_none h1] at hi; cases hi
 have h2 := ((((h.set i hi 0 v0).set i (List.getElem?_set_self (by simpa using hl)) 1 v1).set i (List.getElem?_set_self (by simpa using hl)) 2 v2).set i (List.getElem?_set_self (by simpa using hl)) 3 v3)
 simp only [List.set_set] at h2
 exact ⟨_, rfl, h2⟩
theorem Sep.gset5 {S : List Nat} {w W : World} {rs : List Res} (h : Sep S w W rs) (i : Nat) {g : Nat} {t : TypeId} {x0 x1 x2 x3 x4 : Value} (hi : rs[i]? = some (.blk g t #[x0, x1, x2, x3, x4])) (v0 v1 v2 v3 v4 : Value) : ∃ W', (((((W.setCell ⟨g, 0, none⟩ v0).setCell ⟨g, 1, none⟩ v1).setCell ⟨g, 2, none⟩ v2).setCell ⟨g, 3, none⟩ v3).setCell ⟨g, 4, none⟩ v4) = W' ∧ Sep S w W' (rs.set i (.blk g t #[v0, v1, v2, v3, v4])) := by
 have hl : i < rs.length := by
  rcases Nat.lt_or_ge i rs.length with h1 | h1
  ·exact h1
  ·rw [List.getElem?_eq_none h1] at hi; cases hi
 have h2 := (((((h.set i hi 0 v0).set i (List.getElem?_set_self (by simpa using hl)) 1 v1).set i (List.getElem?_set_self (by simpa using hl)) 2 v2).set i (List.getElem?_set_self (by simpa using hl)) 3 v3).set i (List.getElem?_set_self (by simpa using hl)) 4 v4)
 simp only [List.set_set] at h2
 exact ⟨_, rfl, h2⟩
theorem Sep.galloc {S : List Nat} {w W : World} {rs : List Res} (h : Sep S w W rs) (t : TypeId) (cs : Array Value) : ∃ W', W.alloc (.cells cs t) = W' ∧ Sep S w W' (.blk W.heap.size t cs :: rs) := ⟨_, rfl, h.allocN t cs⟩
theorem run_append_row {P : Program} {w : World} (base : Nat) (t ty e : TypeId) (i : TypeInfo) (z : Value) (size bytes : Nat) (ht : P.underlying t = some (.slice e)) (hi : P.info? e = some i) (hz : i.zero = some z)
 (hsize : i.size = size) (hby : i.bytes = bytes) (hzs : z.cells.size = size) (hsz : 0 < size) (v : Value) (n : Nat) (xs : List Value) (hown : w.ownsRow base e size v n xs)
 (sp : Option Addr) (m c : Nat) (news : List Value) (hl : news.length = m * size) (hrow : Row w sp news) (h1 : ∀ u ∈ news, u.oneCell' = true)
 (h63 : n + m ≤ maxLen) (hbytes : (n + m) * bytes ≤ 140737488355328) (hbase : base ≤ w.heap.size) :
 ∃ v' w', (Builtin.append_ #[t, t] ty #[v, .slice sp m c]).run P w = .ok v' w' ∧ w'.ownsRow base e size v' (n + m) (xs ++ news) ∧ w.grownBy w' v.ownBlock ∧ (v' = .slice none 0 0 ↔ v = .slice none 0 0 ∧ m = 0) := by
 rcases Nat.eq_zero_or_pos news.length with h0 | h0
 ·have hm : m = 0 := by
   rcases Nat.eq_zero_or_pos m with h | h
   ·exact h
   ·have := Nat.mul_pos h hsz; omega
  obtain rfl : news = [] := List.eq_nil_of_length_eq_zero h0
  subst hm
  cases sp with
  | some a => exact run_append_own w base t ty e i z size bytes ht hi hz hsize hby hzs hsz v n xs hown a 0 c [] (by simp) (by simp) h1 h63 hbytes hbase
  | none =>
   refine ⟨v, w, ?_, by simpa using hown, World.grownBy.refl _ _, by simp⟩
   rcases hown.2 with ⟨rfl, rfl⟩ | ⟨g, cap, cur, rfl, _, _, hnc, _⟩
   ·simp [Builtin.append_, run_underlying ht, sizeOf, typeInfo, hi, Builtin.lenOf, Builtin.firstCells]
   ·simp [Builtin.append_, run_underlying ht, sizeOf, typeInfo, hi, Builtin.lenOf, Builtin.firstCells, hnc, storeCells]
 ·obtain ⟨b, off, rfl, hc⟩ := hrow h0
  refine run_append_own w base t ty e i z size bytes ht hi hz hsize hby hzs hsz v n xs hown ⟨b, off, none⟩ m c news hl (fun j u hu => ?_) h1 h63 hbytes hbase
  rw [show (⟨b, off, none⟩ : Addr).add j = ⟨b, off + j, none⟩ from by unfold Addr.add; split <;> simp_all]
  exact hc j u hu
theorem wpList_append_row {P : Program} {w : World} {ops : Array Oper} {rest : List Oper} {o : Oper} {a : Act} {Q : Exit → Act → World → Prop} (hgd : o.guard = none) (s x : Operand) (t : TypeId)
 (ho : o.op = .call { callee := .builtin .append, args := #[s, x], argTypes := #[t, t] })
 (base : Nat) (e : TypeId) (i : TypeInfo) (z : Value) (size bytes : Nat) (ht : P.underlying t = some (.slice e)) (hi : P.info? e = some i) (hz : i.zero = some z)
 (hsize : i.size = size) (hby : i.bytes = bytes) (hzs : z.cells.size = size) (hsz : 0 < size)
 (v : Value) (n : Nat) (xs : List Value) (hs : a.eval s = v) (hown : w.ownsRow base e size v n xs)
 (sp : Option Addr) (m c : Nat) (news : List Value) (hx : a.eval x = .slice sp m c) (hl : news.length = m * size) (hrow : Row w sp news) (h1 : ∀ u ∈ news, u.oneCell' = true)
 (h63 : n + m ≤ maxLen) (hbytes : (n + m) * bytes ≤ 140737488355328) (hbase : base ≤ w.heap.size)
 (h : ∀ v' w', w'.ownsRow base e size v' (n + m) (xs ++ news) → w.grownBy w' v.ownBlock → (v' = .slice none 0 0 ↔ v = .slice none 0 0 ∧ m = 0) → wpList P ops Q rest (a.put o.dst v') w') : wpList P ops Q (o :: rest) a w := by
 refine wpList_plain hgd fun K hK => ?_
 obtain ⟨v', w', hrun, r1, r2, r3⟩ := run_append_row (P := P) (w := w) base t o.type e i z size bytes ht hi hz hsize hby hzs hsz v n xs hown sp m c news hl hrow h1 h63 hbytes hbase
 unfold Oper.wp
 simp [execOp, ho, resolve, invoke, builtin, hs, hx, hrun, Result.andThen]
 exact hK _ _ (h v' w' r1 r2 r3)
theorem step_append_row {P : Program} {ops : Array Oper} {o : Oper} {a : Act} {w : World} {K : Act → World → Prop} {Q : Exit → Act → World → Prop} {E : Prop} (hgd : o.guard = none) (s x : Operand) (t : TypeId)
 (ho : o.op = .call { callee := .builtin .append, args := #[s, x], argTypes := #[t, t] })
 (base : Nat) (e : TypeId) (i : TypeInfo) (z : Value) (size bytes : Nat) (ht : P.underlying t = some (.slice e)) (hi : P.info? e = some i) (hz : i.zero = some z)
 (hsize : i.size = size) (hby : i.bytes = bytes) (hzs : z.cells.size = size) (hsz : 0 < size)
 (v : Value) (n : Nat) (xs : List Value) (hs : a.eval s = v) (hown : w.ownsRow base e size v n xs)
 (sp : Option Addr) (m c : Nat) (news : List Value) (hx : a.eval x = .slice sp m c) (hl : news.length = m * size) (hrow : Row w sp news) (h1 : ∀ u ∈ news, u.oneCell' = true)
 (h63 : n + m ≤ maxLen) (hbytes : (n + m) * bytes ≤ 140737488355328) (hbase : base ≤ w.heap.size)
 (h : ∀ v' w', w'.ownsRow base e size v' (n + m) (xs ++ news) → w.grownBy w' v.ownBlock → (v' = .slice none 0 0 ↔ v = .slice none 0 0 ∧ m = 0) → K (a.put o.dst v') w') :
 if Region.wanted o (yielded ops a.tmps) = true then Oper.wp P o a w K Q else E := by
 have hw : Region.wanted o (yielded ops a.tmps) = true := by simp [Region.wanted, hgd]
 rw [if_pos hw]
 obtain ⟨v', w', hrun, r1, r2, r3⟩ := run_append_row (P := P) (w := w) base t o.type e i z size bytes ht hi hz hsize hby hzs hsz v n xs hown sp m c news hl hrow h1 h63 hbytes hbase
 unfold Oper.wp
 simp [execOp, ho, resolve, invoke, builtin, hs, hx, hrun, Result.andThen]
 exact h v' w' r1 r2 r3
/-- append to an empty literal: the row is a row of one's own. -/
theorem step_append_lit {P : Program} {ops : Array Oper} {o : Oper} {a : Act} {w : World} {K : Act → World → Prop} {Q : Exit → Act → World → Prop} {E : Prop} (hgd : o.guard = none) (s x : Operand) (t : TypeId)
 (ho : o.op = .call { callee := .builtin .append, args := #[s, x], argTypes := #[t, t] })
 (lo : Nat) (e : TypeId) (i : TypeInfo) (z : Value) (size bytes : Nat) (ht : P.underlying t = some (.slice e)) (hi : P.info? e = some i) (hz : i.zero = some z)
 (hsize : i.size = size) (hby : i.bytes = bytes) (hzs : z.cells.size = size) (hsz : 0 < size)
 (a0 : Nat) (hs : a.eval s = .slice (some ⟨a0, 0, none⟩) 0 0) (hl : Blk w a0 e #[]) (hlo : lo ≤ a0)
 (sp : Option Addr) (m c : Nat) (news : List Value) (hx : a.eval x = .slice sp m c) (hn : news.length = m * size) (hrow : Row w sp news) (h1 : ∀ u ∈ news, u.oneCell' = true)
 (h63 : m ≤ maxLen) (hbytes : m * bytes ≤ 140737488355328)
 (h : ∀ g c' w', Blk w a0 e #[] → OwnR w' lo w'.heap.size e size (.slice (some ⟨g, 0, none⟩) m c') m news → w.grownBy w' (some a0) → K (a.put o.dst (.slice (some ⟨g, 0, none⟩) m c')) w') :
 if Region.wanted o (yielded ops a.tmps) = true then Oper.wp P o a w K Q else E := by
 have hown : w.ownsRow lo e size (.slice (some ⟨a0, 0, none⟩) 0 0) 0 [] := ⟨by simp, .inr ⟨a0, 0, #[], rfl, hlo, hl, Nat.le_refl _, Nat.zero_le _, by simp, by simp⟩⟩
 refine step_append_row hgd s x t ho lo e i z size bytes ht hi hz hsize hby hzs hsz (.slice (some ⟨a0, 0, none⟩) 0 0) 0 [] hs hown sp m c news hx hn hrow h1 (by omega) (by rw [Nat.zero_add]; exact hbytes) (by have := hl.lt; omega) ?_
 intro v' w' r1 r2 r3
 rw [Nat.zero_add, List.nil_append] at r1
 rcases r1.2 with ⟨e1, _⟩ | ⟨g, cap, cur, e1, h2, h3, h4, h5, h6, h7⟩
 ·exact absurd (r3.1 e1).1 (by simp)
 ·subst e1
  exact h g cap w' hl (OwnR.of r1 (Nat.le_refl _)) r2
theorem OwnR.grownT {w w' : World} {lo hi a0 : Nat} {e t : TypeId} {size n : Nat} {v : Value} {xs : List Value} (h : OwnR w lo hi e size v n xs) (hl : Blk w a0 t #[]) (hne : e ≠ t) (hg : w.grownBy w' (some a0)) : OwnR w' lo hi e size v n xs :=
 ⟨h.1.kept hg (.inr (own_blk_ne h.1 hl hne)), h.2⟩
/-- A row cut at its end, and at its head. -/
theorem Own.cut {w : World} {base : Nat} {e : TypeId} {size g n c k : Nat} {xs : List Value} (h : w.ownsRow base e size (.slice (some ⟨g, 0, none⟩) n c) n xs) (hk : k ≤ n) : w.ownsRow base e size (.slice (some ⟨g, 0, none⟩) k c) k (xs.take (k * size)) := by
 rcases h.2 with ⟨hv, _⟩ | ⟨g', cap, cur, hv, hb, hh, h1, h2, h3, h4⟩
 ·cases hv
 ·injection hv with e1 e2 e3
  injection e1 with e1
  injection e1 with e1
  subst e1 e3
  have hle : k * size ≤ n * size := Nat.mul_le_mul_right _ hk
  refine ⟨by rw [List.length_take, h.1]; omega, .inr ⟨g, c, cur, rfl, hb, hh, by omega, h2, h3, ?_⟩⟩
  rw [← h4, List.take_take]; congr 1; omega
theorem Row.tail {w : World} {g k : Nat} {xs : List Value} (h : Row w (some ⟨g, 0, none⟩) xs) (A : Option Addr) (hA : k < xs.length → A = some ⟨g, k, none⟩) : Row w A (xs.drop k) := by
 intro hl
 rw [List.length_drop] at hl
 obtain ⟨b, off, e, hc⟩ := h (by omega)
 injection e with e; injection e with e1 e2; subst e1 e2
 refine ⟨g, k, hA (by omega), fun j u hu => ?_⟩
 rw [List.getElem?_drop] at hu
 have := hc _ u hu
 rwa [Nat.zero_add] at this
def runM : List T7 → Int → Int → Int
 | [], _, _ => -1
 | t :: r, w, i => if t.s = 2 ∧ t.o = w then i else runM r w (i + 1)
set_option maxHeartbeats 1000000 in
theorem sRunBy_any (ts : List T7) (A0 A1 A2 : Option Addr) (c0 n1 c1 n2 c2 : Nat) (tn : Int) (st : Bool) (wk : Int) (w : World) (hlen : ts.length ≤ 1048576) (h0 : Row w A0 (tcells ts)) :
 Calls Tryz.prog 37 #[.agg #[.slice A0 ts.length c0, .slice A1 n1 c1, .slice A2 n2 c2, .int .i64 tn, .bool st], .int .i64 wk] w fun r w' => r = .returned (.int .i64 (runM ts wk 0)) ∧ Below w.heap.size w w' := by
 have H0 := hide h0
 clear h0
 go_enter Tryz.func37, Tryz.ntmps37
 go_wp2
 go_loopw [5] (fun i wr => ∃ (k : Nat), k ≤ ts.length ∧ i = .int .i64 k ∧ runM ts wk 0 = runM (ts.drop k) wk k ∧ Below w.heap.size w wr ∧ Blk wr w.heap.size 30 #[.slice A0 ts.length c0, .slice A1 n1 c1, .slice A2 n2 c2, .int .i64 tn, .bool st]) (fun i _ => ts.length - (intOf i).toNat)
 case atStart => exact ⟨0, Nat.zero_le _, rfl, rfl, by go_grown, Blk.new _ _ _⟩
 case round =>
  obtain ⟨k, hk, rfl, hm, hbel, hblk⟩ := hrel
  have hsz := hbel.size
  have d0 : wr.cell? ⟨w.heap.size, 0, none⟩ = some (.slice A0 ts.length c0) := hblk.cell 0
  have Hm := hide hm
  clear hm
  by_cases hlt : k < ts.length
  ·obtain ⟨b, off, s, l, o, wt, on, v, t, rfl, hd, _, _, z0, z1, z2, z3, z4, z5, z6⟩ := (H0.out.below hbel).ts_at hlt
   have Hd := hide hd
   clear hd
   by_cases h1 : s = 2
   ·by_cases h2 : o = wk
    ·go_wp2
     go_ret
     refine ⟨?_, by go_grown⟩
     rw [Hm.out, Hd.out]; simp [runM, h1, h2]
    ·go_wp2
     go_roundw
     case rel => exact ⟨k + 1, by omega, by go_num, by rw [Hm.out, Hd.out]; simp [runM, h1, h2], by go_grown, hblk⟩
     case measure => simp [intOf]; omega
   ·go_wp2
    go_roundw
    case rel => exact ⟨k + 1, by omega, by go_num, by rw [Hm.out, Hd.out]; simp [runM, h1], by go_grown, hblk⟩
    case measure => simp [intOf]; omega
  ·go_wp2
   go_ret
   obtain rfl : k = ts.length := by omega
   refine ⟨?_, by go_grown⟩
   rw [Hm.out]; simp [runM]
set_option maxHeartbeats 1000000 in
theorem runBy_any (ts : List T7) (A0 A1 A2 : Option Addr) (c0 n1 c1 n2 c2 : Nat) (tn : Int) (st : Bool) (wk : Int) (g : Nat) (w : World) (hlen : ts.length ≤ 1048576) (hg : Blk w g 30 #[.slice A0 ts.length c0, .slice A1 n1 c1, .slice A2 n2 c2, .int .i64 tn, .bool st]) (h0 : Row w A0 (tcells ts)) :
 Calls Tryz.prog 63 #[.pointer (some ⟨g, 0, none⟩), .int .i64 wk] w fun r w' => r = .returned (.int .i64 (runM ts wk 0)) ∧ Below w.heap.size w w' := by
 have H0 := hide h0
 clear h0
 have d0 : w.cell? ⟨g, 0, none⟩ = some (.slice A0 ts.length c0) := hg.cell 0
 go_enter Tryz.func63, Tryz.ntmps63
 go_wp2
 go_loopw [12] (fun i wr => ∃ (k : Nat), k ≤ ts.length ∧ i = .int .i64 k ∧ runM ts wk 0 = runM (ts.drop k) wk k ∧ Below w.heap.size w wr) (fun i _ => ts.length - (intOf i).toNat)
 case atStart => exact ⟨0, Nat.zero_le _, rfl, rfl, Below.refl _ _⟩
 case round =>
  obtain ⟨k, hk, rfl, hm, hbel⟩ := hrel
  have hsz := hbel.size
  have Hm := hide hm
  clear hm
  by_cases hlt : k < ts.length
  ·obtain ⟨b, off, s, l, o, wt, on, v, t, rfl, hd, _, _, z0, z1, z2, z3, z4, z5, z6⟩ := (H0.out.below hbel).ts_at hlt
   have Hd := hide hd
   clear hd
   by_cases h1 : s = 2
   ·by_cases h2 : o = wk
    ·go_wp2
     go_ret
     refine ⟨?_, by go_grown⟩
     rw [Hm.out, Hd.out]; simp [runM, h1, h2]
    ·go_wp2
     go_roundw
     case rel => exact ⟨k + 1, by omega, by go_num, by rw [Hm.out, Hd.out]; simp [runM, h1, h2], by go_grown⟩
     case measure => simp [intOf]; omega
   ·go_wp2
    go_roundw
    case rel => exact ⟨k + 1, by omega, by go_num, by rw [Hm.out, Hd.out]; simp [runM, h1], by go_grown⟩
    case measure => simp [intOf]; omega
  ·go_wp2
   go_ret
   obtain rfl : k = ts.length := by omega
   refine ⟨?_, by go_grown⟩
   rw [Hm.out]; simp [runM]
set_option maxHeartbeats 1000000 in
theorem gRunBy_any (ts : List T7) (A0 A1 A2 : Option Addr) (c0 n1 c1 n2 c2 : Nat) (tn : Int) (st : Bool) (wk : Int) (w : World) (hlen : ts.length ≤ 1048576) (h0 : Row w A0 (tcells ts)) :
 Calls Tryz.prog 22 #[.agg #[.slice A0 ts.length c0, .slice A1 n1 c1, .slice A2 n2 c2, .int .i64 tn, .bool st], .int .i64 wk] w fun r w' => r = .returned (.int .i64 (runM ts wk 0)) ∧ Below w.heap.size w w' := by
 have H0 := hide h0
 clear h0
 go_enter Tryz.func22, Tryz.ntmps22
 go_wp2_with fail
 go_call (runBy_any ts A0 A1 A2 c0 n1 c1 n2 c2 tn st wk w.heap.size _ hlen (Blk.new _ _ _) (H0.out.below (by go_grown))) as r w1 ⟨rfl, hb1⟩
 go_wp2_with fail
 go_ret
 exact ⟨rfl, Below.trans (by go_grown) (hb1.mono (by go_size))⟩
end Go.Proofs.YtfjgelegojbmgaaGreat
