/- What a call that writes into rows of the caller's leaves as it was: all blocks but those between two marks. No condition. -/
import Derived.Test.YtgbckcidmojnoaaEqPool
namespace Go.Proofs.Ytgbckcidmojnoaa
open Go.RowKit
set_option linter.unusedVariables false

/-- Two rows of elements of different types are two blocks. -/
theorem own_ne_own {w : World} {b1 b2 : Nat} {e1 e2 : TypeId} {s1 s2 n1 n2 : Nat} {v1 v2 : Value} {x1 x2 : List Value} (h1 : w.ownsRow b1 e1 s1 v1 n1 x1) (h2 : w.ownsRow b2 e2 s2 v2 n2 x2) (hne : e1 ≠ e2) : v1.ownBlock = none ∨ v1.ownBlock ≠ v2.ownBlock := by
  rcases h1.2 with ⟨rfl, _⟩ | ⟨g1, c1, u1, rfl, _, k1, _⟩
  · exact .inl rfl
  · rcases h2.2 with ⟨rfl, _⟩ | ⟨g2, c2, u2, rfl, _, k2, _⟩
    · exact .inr (by simp [Value.ownBlock])
    · refine .inr fun e => ?_
      have e' : g1 = g2 := by simpa [Value.ownBlock] using e
      subst e'
      exact Blk.ne_ (t := e1) (t' := e2) k1 k2 hne rfl
theorem OwnR.grown {w w' : World} {lo hi : Nat} {e : TypeId} {size n : Nat} {v : Value} {xs : List Value} {row : Option Nat} (h : OwnR w lo hi e size v n xs) (hg : w.grownBy w' row) (hne : v.ownBlock = none ∨ v.ownBlock ≠ row) : OwnR w' lo hi e size v n xs := ⟨h.1.kept hg hne, h.2⟩
/-- All blocks but those between two marks are as they were. -/
def Within (lo hi : Nat) (w w' : World) : Prop := w'.os = w.os ∧ w'.tape = w.tape ∧ w'.output = w.output ∧ w.heap.size ≤ w'.heap.size ∧ ∀ b, b < w.heap.size → (b < lo ∨ hi ≤ b) → w'.heap[b]? = w.heap[b]?
section
variable {lo hi B : Nat} {w w' w2 : World}
theorem Within.of_grown {row : Option Nat} (h : w.grownBy w' row) (hr : ∀ g, row = some g → lo ≤ g ∧ g < hi) : Within lo hi w w' := ⟨h.os, h.tape, h.output, h.size, fun b hb ho => h.block b hb (by intro e; have := hr b e.symm; omega)⟩
theorem Within.refl (lo hi : Nat) (w : World) : Within lo hi w w := ⟨rfl, rfl, rfl, Nat.le_refl _, fun _ _ _ => rfl⟩
theorem Within.size (h : Within lo hi w w') : w.heap.size ≤ w'.heap.size := h.2.2.2.1
theorem Within.alloc (h : Within lo hi w w') (_ : w.heap.size ≤ w'.heap.size) (o : Obj) : Within lo hi w (w'.alloc o) :=
  ⟨h.1, h.2.1, h.2.2.1, Nat.le_trans h.2.2.2.1 (by simp), fun b hb ho => (Below.heap_alloc w' o b (Nat.lt_of_lt_of_le hb h.2.2.2.1)).trans (h.2.2.2.2 b hb ho)⟩
theorem Within.setNew (h : Within lo hi w w') {p : Addr} (hp : w.heap.size ≤ p.block) (v : Value) : Within lo hi w (w'.setCell p v) :=
  ⟨h.1, h.2.1, h.2.2.1, by simpa [World.setCell] using h.2.2.2.1, fun b hb ho => (Below.heap_setCell w' p v b (by intro e; subst e; omega)).trans (h.2.2.2.2 b hb ho)⟩
theorem Within.setIn (h : Within lo hi w w') {p : Addr} (hp : lo ≤ p.block ∧ p.block < hi) (v : Value) : Within lo hi w (w'.setCell p v) :=
  ⟨h.1, h.2.1, h.2.2.1, by simpa [World.setCell] using h.2.2.2.1, fun b hb ho => (Below.heap_setCell w' p v b (by intro e; subst e; omega)).trans (h.2.2.2.2 b hb ho)⟩
theorem Within.drew (h : Within lo hi w w') : Within lo hi w w'.drew := h
theorem Within.wide {l2 h2 : Nat} (h : Within lo hi w w') (hl : l2 ≤ lo) (hh : hi ≤ h2) : Within l2 h2 w w' := ⟨h.1, h.2.1, h.2.2.1, h.2.2.2.1, fun b hb ho => h.2.2.2.2 b hb (by omega)⟩
theorem Within.trans (h : Within lo hi w w') (k : Within lo hi w' w2) : Within lo hi w w2 :=
  ⟨k.1.trans h.1, k.2.1.trans h.2.1, k.2.2.1.trans h.2.2.1, Nat.le_trans h.2.2.2.1 k.2.2.2.1, fun b hb ho => (k.2.2.2.2 b (Nat.lt_of_lt_of_le hb h.2.2.2.1) ho).trans (h.2.2.2.2 b hb ho)⟩
theorem Within.of_below (h : Below w.heap.size w w') : Within lo hi w w' := ⟨h.os, h.tape, h.output, h.size, fun b hb _ => h.block b hb⟩
theorem Within.blk {g : Nat} {t : TypeId} {cs : Array Value} (h : Within lo hi w w') (hk : Blk w g t cs) (hg : g < lo ∨ hi ≤ g) : Blk w' g t cs := (h.2.2.2.2 g hk.lt hg).trans hk
theorem Within.under {a : World} (h : Within lo hi w w') (hb : Below B a w) (hB : B ≤ lo) (hw : B ≤ w.heap.size) : Below B a w' :=
  ⟨h.1.trans hb.os, h.2.1.trans hb.tape, h.2.2.1.trans hb.output, Nat.le_trans hb.size h.2.2.2.1, fun i hi => (h.2.2.2.2 i (by omega) (.inl (by omega))).trans (hb.block i hi)⟩
theorem Within.own {l2 h2 : Nat} {e : TypeId} {size n : Nat} {v : Value} {xs : List Value} (h : Within lo hi w w') (k : OwnR w l2 h2 e size v n xs) (hd : h2 ≤ lo ∨ hi ≤ l2) : OwnR w' l2 h2 e size v n xs := by
  refine ⟨⟨k.1.1, ?_⟩, k.2⟩
  rcases k.1.2 with k2 | ⟨g, cap, cur, hv, hb, hg, hr⟩
  · exact .inl k2
  · have hlt : g < w.heap.size := Blk.lt (t := e) (cs := cur) hg
    have hhi := k.2 g (by rw [hv]; rfl)
    exact .inr ⟨g, cap, cur, hv, hb, (h.2.2.2.2 g hlt (by omega)).trans hg, hr⟩
end
theorem Within.pool {lo hi l2 h2 : Nat} {w w' : World} {ts : List T7} {ks : List Int} {fs : List F2} {A0 A1 A2 : Option Addr} {c0 c1 c2 : Nat} (h : Within lo hi w w') (k : OwnPool w l2 h2 ts ks fs A0 A1 A2 c0 c1 c2) (hd : h2 ≤ lo ∨ hi ≤ l2) : OwnPool w' l2 h2 ts ks fs A0 A1 A2 c0 c1 c2 := ⟨h.own k.1 hd, h.own k.2.1 hd, h.own k.2.2 hd⟩
end Go.Proofs.Ytgbckcidmojnoaa
