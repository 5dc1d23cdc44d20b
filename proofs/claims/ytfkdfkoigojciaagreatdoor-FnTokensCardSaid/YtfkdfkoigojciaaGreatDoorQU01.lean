import Derived.Test.YtfkdfkoigojciaaGreatDoorRows
import Derived.WalkKit
import Derived.ProofKit
import Derived.OpenShut
import Derived.Carry
import Derived.Below
import Derived.ChangeOld
import Derived.Lib.SmallJoins
import Derived.WalkSpells
import Derived.WalkLawsBesides
import Derived.Handy
import Derived.Calls
import Derived.Laws.OwnMore
import Derived.Laws.Rows
import Derived.Deep.AppendLies
import Derived.Deep.Draws
import Derived.Deep.OwnRows
import Derived.OwnWalk
import Derived.Laws.AppendOwn
import Derived.Deep.QuietTactic
import Derived.BigQuiet
import Derived.RegionTactic
import Derived.ChangeAlike
import Derived.LoopTactic
import Derived.Lib.Hide
import Derived.IntWalk
import Derived.Laws.BitsAllLaws
import Derived.Laws.BitsLemmas

namespace Go.Proofs.YtfkdfkoigojciaaGreatDoor
open Go.RowKit
set_option linter.unusedVariables false
open Go.ChangeShapes Go.WideShapes Go.ChangeAt Go.RowKit Go.Joins Go.Deep
theorem own : ownKnob Tryz.prog.godebug = none := by kernel_rfl
theorem laidOut : laidOutB Tryz.prog = true := by kernel_rfl
section
variable {H : Type} {enc : TypeId × Value → H} {P : Program} {w : World} {base : Nat} {spare : Nat → Bool} {held : Bool}
end
theorem hide {p : Prop} (h : p) : Hid p := h
theorem block_of_add (a : Addr) (n : Nat) : (a.add n).block = a.block := by unfold Addr.add; split <;> rfl
theorem add_of_add (a : Addr) (i j : Nat) : (a.add i).add j = a.add (i + j) := by
 unfold Addr.add
 by_cases hi : i = 0 <;> by_cases hj : j = 0 <;> simp [hi, hj, Nat.add_assoc]
def Reads (w : World) (B size : Nat) (A : Option Addr) (n : Nat) (xs : List Value) : Prop :=
 xs.length = n * size ∧ (0 < n → ∃ ad, A = some ad ∧ ad.block < B ∧ ∀ j u, xs[j]? = some u → w.cell? (ad.add j) = some u)
section
variable {w w' : World} {B B' size n : Nat} {A : Option Addr} {xs : List Value}
theorem Reads.at_ {k : Nat} (h : Reads w B 1 A n xs) (hk : k < n) : ∃ ad u, A = some ad ∧ ad.block < B ∧ xs[k]? = some u ∧ w.cell? (ad.add k) = some u := by
 obtain ⟨ad, e, hb, hc⟩ := h.2 (by omega)
 have hl : k < xs.length := by have := h.1; omega
 exact ⟨ad, xs[k], e, hb, List.getElem?_eq_getElem hl, hc k _ (List.getElem?_eq_getElem hl)⟩
theorem Reads.keep (h : Reads w B size A n xs) (hk : ∀ p : Addr, p.block < B → w'.cell? p = w.cell? p) : Reads w' B size A n xs :=
 ⟨h.1, fun hn => by
  obtain ⟨ad, e, hb, hc⟩ := h.2 hn
  exact ⟨ad, e, hb, fun j u hu => (hk _ (by rw [block_of_add]; exact hb)).trans (hc j u hu)⟩⟩
theorem Reads.more (h : Reads w B size A n xs) (hB : B ≤ B') : Reads w B' size A n xs :=
 ⟨h.1, fun hn => by
  obtain ⟨ad, e, hb, hc⟩ := h.2 hn
  exact ⟨ad, e, by omega, hc⟩⟩
theorem Reads.below (h : Reads w B size A n xs) (hb : Below B w w') : Reads w' B size A n xs := h.keep fun _ hp => hb.cell hp
theorem Reads.drew (h : Reads w B size A n xs) : Reads w.drew B size A n xs := h
theorem Reads.drewN (h : Reads w B size A n xs) (k : Nat) : Reads (w.drewN k) B size A n xs := h
theorem Reads.alloc (h : Reads w B size A n xs) (hB : B ≤ w.heap.size) (o : Obj) : Reads (w.alloc o) B size A n xs := h.keep fun p hp => World.cell?_alloc_lt w o p (by omega)
theorem Reads.setCell (h : Reads w B size A n xs) {p : Addr} (hB : B ≤ p.block) (u : Value) : Reads (w.setCell p u) B size A n xs :=
 h.keep fun q hq => World.cell?_setCell_other w p q u (fun e => by subst e; omega)
theorem Reads.grown (h : Reads w B size A n xs) {row : Option Nat} (hg : w.grownBy w' row) (hB : B ≤ w.heap.size) (hr : ∀ g, row = some g → B ≤ g) : Reads w' B size A n xs :=
 h.keep fun p hp => World.cell?_of_block (hg.block p.block (by omega) (fun e => by have := hr _ e.symm; omega))
theorem Reads.cut (h : Reads w B size A n xs) {k cap : Nat} (hk : k ≤ n) (hc : n ≤ cap) :
 Reads w B size (if cap = k then A else A.map (·.add (k * size))) (n - k) (xs.drop (k * size)) := by
 refine ⟨by rw [List.length_drop, h.1, Nat.sub_mul], fun hn => ?_⟩
 obtain ⟨ad, rfl, hb, hcell⟩ := h.2 (by omega)
 rw [if_neg (by omega)]
 refine ⟨ad.add (k * size), rfl, by rw [block_of_add]; exact hb, fun j u hu => ?_⟩
 rw [add_of_add]
 exact hcell _ u (by rw [← hu, List.getElem?_drop])
theorem Reads.of_own {base : Nat} {e : TypeId} {c : Nat} (h : w.ownsRow base e size (.slice A n c) n xs) : Reads w w.heap.size size A n xs := by
 refine ⟨h.1, fun hn => ?_⟩
 obtain ⟨g, cap, hv, _, hlt⟩ := h.form hn
 have hA : A = some ⟨g, 0, none⟩ := by injection hv
 subst hA
 exact ⟨_, rfl, hlt, h.cells (g := g) rfl⟩
end
def Blk (w : World) (g : Nat) (t : TypeId) (cs : Array Value) : Prop := w.heap[g]? = some (.cells cs t (0, 0))
section
variable {w w' : World} {g : Nat} {t : TypeId} {cs : Array Value}
theorem Blk.lt (h : Blk w g t cs) : g < w.heap.size := by
 rcases Nat.lt_or_ge g w.heap.size with hlt | hge
 ·exact hlt
 ·unfold Blk at h; rw [Array.getElem?_eq_none hge] at h; cases h
theorem Blk.cell (h : Blk w g t cs) (i : Nat) : w.cell? ⟨g, i, none⟩ = cs[i]? := cell_of_row w g i cs t (0, 0) h
theorem Blk.frozen (h : Blk w g t cs) (i : Nat) : w.frozen? ⟨g, i, none⟩ = false := by
 unfold Blk at h
 simp [World.frozen?, h]
theorem Blk.new (w : World) (t : TypeId) (cs : Array Value) : Blk (w.alloc (.cells cs t)) w.heap.size t cs := heap_alloc_new w _
theorem Blk.drew (h : Blk w g t cs) : Blk w.drew g t cs := h
theorem Blk.drewN (h : Blk w g t cs) (n : Nat) : Blk (w.drewN n) g t cs := h
theorem Blk.alloc (h : Blk w g t cs) (o : Obj) : Blk (w.alloc o) g t cs := (Below.heap_alloc w o g h.lt).trans h
theorem Blk.set_ (h : Blk w g t cs) (i : Nat) (u : Value) : Blk (w.setCell ⟨g, i, none⟩ u) g t (cs.setIfInBounds i u) := by
 unfold Blk at h ⊢
 simp [World.setCell, Array.getElem?_modify, h]
theorem Blk.far (h : Blk w g t cs) {p : Addr} (hp : g ≠ p.block) (u : Value) : Blk (w.setCell p u) g t cs := (Below.heap_setCell w p u g hp).trans h
theorem Blk.below {B : Nat} (h : Blk w g t cs) (hb : Below B w w') (hg : g < B) : Blk w' g t cs := (hb.block g hg).trans h
theorem Blk.grown {row : Option Nat} (h : Blk w g t cs) (hb : w.grownBy w' row) (hg : some g ≠ row) : Blk w' g t cs := (hb.block g h.lt hg).trans h
theorem Blk.ne_ {g' : Nat} {t' : TypeId} {cs' : Array Value} (h : Blk w g t cs) (h' : Blk w g' t' cs') (hne : t ≠ t') : g ≠ g' := by
 rintro rfl
 unfold Blk at h h'
 rw [h] at h'
 injection h' with h'
 injection h' with _ ht
 exact hne ht
theorem own_blk_ne {base : Nat} {e : TypeId} {size n : Nat} {v : Value} {xs : List Value} (h : w.ownsRow base e size v n xs) (hg : Blk w g t cs) (hne : e ≠ t) : v.ownBlock ≠ some g := by
 rcases h.2 with ⟨rfl, _⟩ | ⟨g', cap, cur, rfl, _, hh, _⟩
 ·simp [Value.ownBlock]
 ·intro he
  have : g' = g := by simpa [Value.ownBlock] using he
  subst this
  exact Blk.ne_ (t := e) hh hg hne rfl
end
theorem below_drewN {B : Nat} {a w : World} (h : Below B a w) (n : Nat) : Below B a (w.drewN n) := ⟨h.os, h.tape, h.output, h.size, h.block⟩
theorem only_drewN {a w : World} {row : Option Nat} (h : a.grownBy w row) (n : Nat) : a.grownBy (w.drewN n) row := ⟨h.os, h.tape, h.output, h.size, h.block⟩
theorem only_drew {a w : World} {row : Option Nat} (h : a.grownBy w row) : a.grownBy w.drew row := ⟨h.os, h.tape, h.output, h.size, h.block⟩
theorem only_alloc {a w : World} {row : Option Nat} (h : a.grownBy w row) (o : Obj) : a.grownBy (w.alloc o) row :=
 ⟨h.os, h.tape, h.output, Nat.le_trans h.size (by simp), fun i hi hne => (Below.heap_alloc w o i (Nat.lt_of_lt_of_le hi h.size)).trans (h.block i hi hne)⟩
theorem only_setCell {a w : World} {g : Nat} (h : a.grownBy w (some g)) {p : Addr} (hp : p.block = g ∨ a.heap.size ≤ p.block) (u : Value) : a.grownBy (w.setCell p u) (some g) :=
 ⟨h.os, h.tape, h.output, by simpa [World.setCell] using h.size, fun i hi hne => (Below.heap_setCell w p u i (by
  rintro rfl
  rcases hp with hp | hp
  ·exact hne (by rw [hp])
  ·omega)).trans (h.block i hi hne)⟩
theorem only_of_below {a w : World} (h : Below a.heap.size a w) (row : Option Nat) : a.grownBy w row := ⟨h.os, h.tape, h.output, h.size, fun i hi _ => h.block i hi⟩
theorem grownBy_trans {a b c : World} {row : Option Nat} (h : a.grownBy b row) (k : b.grownBy c row) : a.grownBy c row :=
 ⟨k.os.trans h.os, k.tape.trans h.tape, k.output.trans h.output, Nat.le_trans h.size k.size, fun i hi hn => (k.block i (Nat.lt_of_lt_of_le hi h.size) hn).trans (h.block i hi hn)⟩
theorem only_below {a b c : World} {row : Option Nat} (h : a.grownBy b row) (k : Below b.heap.size b c) : a.grownBy c row := grownBy_trans h (only_of_below k row)
theorem grown_then_below {a b c : World} {row : Option Nat} (h : a.grownBy b row) (k : Below a.heap.size b c) : a.grownBy c row :=
 ⟨k.os.trans h.os, k.tape.trans h.tape, k.output.trans h.output, Nat.le_trans h.size k.size, fun i hi hn => (k.block i hi).trans (h.block i hi hn)⟩
theorem below_only {B : Nat} {a b c : World} {g : Nat} (h : Below B a b) (k : b.grownBy c (some g)) (hg : B ≤ g) (hB : B ≤ b.heap.size) : Below B a c :=
 ⟨k.os.trans h.os, k.tape.trans h.tape, k.output.trans h.output, Nat.le_trans h.size k.size, fun i hi => (k.block i (by omega) (by intro e; injection e; omega)).trans (h.block i hi)⟩
theorem bcell {W w1 : World} (hb : Below W.heap.size W w1) : (∀ b o, b < W.heap.size → w1.cell? ⟨b, o, none⟩ = W.cell? ⟨b, o, none⟩) ∧ (∀ b o, b < W.heap.size → w1.frozen? ⟨b, o, none⟩ = W.frozen? ⟨b, o, none⟩) :=
 ⟨fun b o h => hb.cell (p := ⟨b, o, none⟩) h, fun b o h => hb.frozen (p := ⟨b, o, none⟩) h⟩
def Bytes (w : World) (B : Nat) (A : Option Addr) (len : Nat) : Prop :=
 0 < len → ∃ b off : Nat, A = some ⟨b, off, none⟩ ∧ b < B ∧ ∀ k, k < len → ∃ z : Int, 0 ≤ z ∧ z ≤ 255 ∧ w.cell? ⟨b, off + k, none⟩ = some (.int .u8 z)
theorem Bytes.keep {w w' : World} {B len : Nat} {A : Option Addr} (h : Bytes w B A len) (hk : ∀ b, b < B → w'.heap[b]? = w.heap[b]?) : Bytes w' B A len := by
 intro hl
 obtain ⟨b, off, e, hb, hc⟩ := h hl
 refine ⟨b, off, e, hb, fun k hkk => ?_⟩
 obtain ⟨z, h0, h1, h2⟩ := hc k hkk
 exact ⟨z, h0, h1, (World.cell?_of_block (hk b hb)).trans h2⟩
theorem bytes_of_row {w : World} {x : Addr} {len cap : Nat} {zs : List Int} (hl : len ≤ cap) (hz : zs.length = cap) (hcell : ∀ i, i < zs.length → w.cell? (x.add i) = some (.int .u8 (zs.getD i 0)))
 (hwz : ∀ n ∈ zs, (Lit.int .u8 n).wf = true) : Bytes w w.heap.size (some x) len := by
 intro h0
 have c0 := hcell 0 (by omega)
 obtain ⟨b, off, spot⟩ := x
 have hspot : spot = none := by simpa [Addr.add] using World.cell?_spot c0
 subst hspot
 have hb : b < w.heap.size := World.block_lt_of_cell? w _ (by simpa [Addr.add] using c0)
 refine ⟨b, off, rfl, hb, fun k hk => ⟨zs.getD k 0, ?_, ?_, ?_⟩⟩
 all_goals have hkz : k < zs.length := by omega
 all_goals have hm : zs.getD k 0 ∈ zs := by rw [List.getD_eq_getElem?_getD, List.getElem?_eq_getElem hkz]; exact List.getElem_mem hkz
 ·have := hwz _ hm; simp [Lit.wf, IntKind.min, IntKind.max, IntKind.signed, IntKind.bits] at this ⊢; try omega
 ·have := hwz _ hm; simp [Lit.wf, IntKind.min, IntKind.max, IntKind.signed, IntKind.bits] at this ⊢; try omega
 ·have := hcell k hkz; rw [← this]; congr 1; simp [Addr.add]; try omega
theorem Blk.to {w : World} {g : Nat} {t : TypeId} {cs cs' : Array Value} (h : Blk w g t cs) (e : cs = cs') : Blk w g t cs' := e ▸ h
theorem and_le_u64 (a : Int) (m : Nat) (hm : m < 9223372036854775808) : 0 ≤ bits .and .u64 a (m : Int) ∧ bits .and .u64 a (m : Int) ≤ m := by
 have e : bits .and .u64 a (m : Int) = IntKind.u64.wrap (((BitVec.ofInt 64 a &&& BitVec.ofInt 64 (m : Int)).toNat : Nat) : Int) := rfl
 have h2 := Nat.and_le_right (n := (BitVec.ofInt 64 a).toNat) (m := m)
 rw [e, BitVec.toNat_and, ofInt_u64 m (by omega), IntKind.wrap_u64]
 omega
theorem and_le_i64 (a : Int) (m : Nat) (hm : m < 9223372036854775808) : 0 ≤ bits .and .i64 a (m : Int) ∧ bits .and .i64 a (m : Int) ≤ m := by
 have e : bits .and .i64 a (m : Int) = IntKind.i64.wrap (((BitVec.ofInt 64 a &&& BitVec.ofInt 64 (m : Int)).toNat : Nat) : Int) := rfl
 have h2 := Nat.and_le_right (n := (BitVec.ofInt 64 a).toNat) (m := m)
 rw [e, BitVec.toNat_and, ofInt_u64 m (by omega), IntKind.wrap_i64]
 omega
theorem and24 (a : Int) : 0 ≤ bits .and .u64 a 16777215 ∧ bits .and .u64 a 16777215 ≤ 16777215 := and_le_u64 a 16777215 (by decide)
theorem and8 (a : Int) : 0 ≤ bits .and .i64 a 255 ∧ bits .and .i64 a 255 ≤ 255 := and_le_i64 a 255 (by decide)
theorem Blk.f1 {W : World} {g : Nat} {t : TypeId} {v0 : Value} (h : Blk W g t #[v0]) : g < W.heap.size ∧ W.cell? ⟨g, 0, none⟩ = some v0 ∧ W.frozen? ⟨g, 0, none⟩ = false := ⟨h.lt, h.cell 0, h.frozen 0⟩
theorem Blk.q1 {W : World} {g : Nat} {t : TypeId} {v0 : Value} (h : Blk W g t #[v0]) : g < W.heap.size ∧ W.cell? ⟨g, 0, none⟩ = some v0 := ⟨h.lt, h.cell 0⟩
theorem Blk.f2 {W : World} {g : Nat} {t : TypeId} {v0 v1 : Value} (h : Blk W g t #[v0, v1]) : g < W.heap.size ∧ W.cell? ⟨g, 0, none⟩ = some v0 ∧ W.frozen? ⟨g, 0, none⟩ = false ∧ W.cell? ⟨g, 1, none⟩ = some v1 ∧ W.frozen? ⟨g, 1, none⟩ = false := ⟨h.lt, h.cell 0, h.frozen 0, h.cell 1, h.frozen 1⟩
theorem Blk.q2 {W : World} {g : Nat} {t : TypeId} {v0 v1 : Value} (h : Blk W g t #[v0, v1]) : g < W.heap.size ∧ W.cell? ⟨g, 0, none⟩ = some v0 ∧ W.cell? ⟨g, 1, none⟩ = some v1 := ⟨h.lt, h.cell 0, h.cell 1⟩
theorem Blk.f3 {W : World} {g : Nat} {t : TypeId} {v0 v1 v2 : Value} (h : Blk W g t #[v0, v1, v2]) : g < W.heap.size ∧ W.cell? ⟨g, 0, none⟩ = some v0 ∧ W.frozen? ⟨g, 0, none⟩ = false ∧ W.cell? ⟨g, 1, none⟩ = some v1 ∧ W.frozen? ⟨g, 1, none⟩ = false ∧ W.cell? ⟨g, 2, none⟩ = some v2 ∧ W.frozen? ⟨g, 2, none⟩ = false := ⟨h.lt, h.cell 0, h.frozen 0, h.cell 1, h.frozen 1, h.cell 2, h.frozen 2⟩
theorem Blk.q3 {W : World} {g : Nat} {t : TypeId} {v0 v1 v2 : Value} (h : Blk W g t #[v0, v1, v2]) : g < W.heap.size ∧ W.cell? ⟨g, 0, none⟩ = some v0 ∧ W.cell? ⟨g, 1, none⟩ = some v1 ∧ W.cell? ⟨g, 2, none⟩ = some v2 := ⟨h.lt, h.cell 0, h.cell 1, h.cell 2⟩
theorem Blk.f4 {W : World} {g : Nat} {t : TypeId} {v0 v1 v2 v3 : Value} (h : Blk W g t #[v0, v1, v2, v3]) : g < W.heap.size ∧ W.cell? ⟨g, 0, none⟩ = some v0 ∧ W.frozen? ⟨g, 0, none⟩ = false ∧ W.cell? ⟨g, 1, none⟩ = some v1 ∧ W.frozen? ⟨g, 1, none⟩ = false ∧ W.cell? ⟨g, 2, none⟩ = some v2 ∧ W.frozen? ⟨g, 2, none⟩ = false ∧ W.cell? ⟨g, 3, none⟩ = some v3 ∧ W.frozen? ⟨g, 3, none⟩ = false := ⟨h.lt, h.cell 0, h.frozen 0, h.cell 1, h.frozen 1, h.cell 2, h.frozen 2, h.cell 3, h.frozen 3⟩
theorem Blk.q4 {W : World} {g : Nat} {t : TypeId} {v0 v1 v2 v3 : Value} (h : Blk W g t #[v0, v1, v2, v3]) : g < W.heap.size ∧ W.cell? ⟨g, 0, none⟩ = some v0 ∧ W.cell? ⟨g, 1, none⟩ = some v1 ∧ W.cell? ⟨g, 2, none⟩ = some v2 ∧ W.cell? ⟨g, 3, none⟩ = some v3 := ⟨h.lt, h.cell 0, h.cell 1, h.cell 2, h.cell 3⟩
theorem Blk.f5 {W : World} {g : Nat} {t : TypeId} {v0 v1 v2 v3 v4 : Value} (h : Blk W g t #[v0, v1, v2, v3, v4]) : g < W.heap.size ∧ W.cell? ⟨g, 0, none⟩ = some v0 ∧ W.frozen? ⟨g, 0, none⟩ = false ∧ W.cell? ⟨g, 1, none⟩ = some v1 ∧ W.frozen? ⟨g, 1, none⟩ = false ∧ W.cell? ⟨g, 2, none⟩ = some v2 ∧ W.frozen? ⟨g, 2, none⟩ = false ∧ W.cell? ⟨g, 3, none⟩ = some v3 ∧ W.frozen? ⟨g, 3, none⟩ = false ∧ W.cell? ⟨g, 4, none⟩ = some v4 ∧ W.frozen? ⟨g, 4, none⟩ = false := ⟨h.lt, h.cell 0, h.frozen 0, h.cell 1, h.frozen 1, h.cell 2, h.frozen 2, h.cell 3, h.frozen 3, h.cell 4, h.frozen 4⟩
theorem Blk.q5 {W : World} {g : Nat} {t : TypeId} {v0 v1 v2 v3 v4 : Value} (h : Blk W g t #[v0, v1, v2, v3, v4]) : g < W.heap.size ∧ W.cell? ⟨g, 0, none⟩ = some v0 ∧ W.cell? ⟨g, 1, none⟩ = some v1 ∧ W.cell? ⟨g, 2, none⟩ = some v2 ∧ W.cell? ⟨g, 3, none⟩ = some v3 ∧ W.cell? ⟨g, 4, none⟩ = some v4 := ⟨h.lt, h.cell 0, h.cell 1, h.cell 2, h.cell 3, h.cell 4⟩
theorem Blk.f6 {W : World} {g : Nat} {t : TypeId} {v0 v1 v2 v3 v4 v5 : Value} (h : Blk W g t #[v0, v1, v2, v3, v4, v5]) : g < W.heap.size ∧ W.cell? ⟨g, 0, none⟩ = some v0 ∧ W.frozen? ⟨g, 0, none⟩ = false ∧ W.cell? ⟨g, 1, none⟩ = some v1 ∧ W.frozen? ⟨g, 1, none⟩ = false ∧ W.cell? ⟨g, 2, none⟩ = some v2 ∧ W.frozen? ⟨g, 2, none⟩ = false ∧ W.cell? ⟨g, 3, none⟩ = some v3 ∧ W.frozen? ⟨g, 3, none⟩ = false ∧ W.cell? ⟨g, 4, none⟩ = some v4 ∧ W.frozen? ⟨g, 4, none⟩ = false ∧ W.cell? ⟨g, 5, none⟩ = some v5 ∧ W.frozen? ⟨g, 5, none⟩ = false := ⟨h.lt, h.cell 0, h.frozen 0, h.cell 1, h.frozen 1, h.cell 2, h.frozen 2, h.cell 3, h.frozen 3, h.cell 4, h.frozen 4, h.cell 5, h.frozen 5⟩
theorem Blk.q6 {W : World} {g : Nat} {t : TypeId} {v0 v1 v2 v3 v4 v5 : Value} (h : Blk W g t #[v0, v1, v2, v3, v4, v5]) : g < W.heap.size ∧ W.cell? ⟨g, 0, none⟩ = some v0 ∧ W.cell? ⟨g, 1, none⟩ = some v1 ∧ W.cell? ⟨g, 2, none⟩ = some v2 ∧ W.cell? ⟨g, 3, none⟩ = some v3 ∧ W.cell? ⟨g, 4, none⟩ = some v4 ∧ W.cell? ⟨g, 5, none⟩ = some v5 := ⟨h.lt, h.cell 0, h.cell 1, h.cell 2, h.cell 3, h.cell 4, h.cell 5⟩
theorem Blk.f7 {W : World} {g : Nat} {t : TypeId} {v0 v1 v2 v3 v4 v5 v6 : Value} (h : Blk W g t #[v0, v1, v2, v3, v4, v5, v6]) : g < W.heap.size ∧ W.cell? ⟨g, 0, none⟩ = some v0 ∧ W.frozen? ⟨g, 0, none⟩ = false ∧ W.cell? ⟨g, 1, none⟩ = some v1 ∧ W.frozen? ⟨g, 1, none⟩ = false ∧ W.cell? ⟨g, 2, none⟩ = some v2 ∧ W.frozen? ⟨g, 2, none⟩ = false ∧ W.cell? ⟨g, 3, none⟩ = some v3 ∧ W.frozen? ⟨g, 3, none⟩ = false ∧ W.cell? ⟨g, 4, none⟩ = some v4 ∧ W.frozen? ⟨g, 4, none⟩ = false ∧ W.cell? ⟨g, 5, none⟩ = some v5 ∧ W.frozen? ⟨g, 5, none⟩ = false ∧ W.cell? ⟨g, 6, none⟩ = some v6 ∧ W.frozen? ⟨g, 6, none⟩ = false := ⟨h.lt, h.cell 0, h.frozen 0, h.cell 1, h.frozen 1, h.cell 2, h.frozen 2, h.cell 3, h.frozen 3, h.cell 4, h.frozen 4, h.cell 5, h.frozen 5, h.cell 6, h.frozen 6⟩
theorem Blk.q7 {W : World} {g : Nat} {t : TypeId} {v0 v1 v2 v3 v4 v5 v6 : Value} (h : Blk W g t #[v0, v1, v2, v3, v4, v5, v6]) : g < W.heap.size ∧ W.cell? ⟨g, 0, none⟩ = some v0 ∧ W.cell? ⟨g, 1, none⟩ = some v1 ∧ W.cell? ⟨g, 2, none⟩ = some v2 ∧ W.cell? ⟨g, 3, none⟩ = some v3 ∧ W.cell? ⟨g, 4, none⟩ = some v4 ∧ W.cell? ⟨g, 5, none⟩ = some v5 ∧ W.cell? ⟨g, 6, none⟩ = some v6 := ⟨h.lt, h.cell 0, h.cell 1, h.cell 2, h.cell 3, h.cell 4, h.cell 5, h.cell 6⟩
theorem zI {α : Type _} {l : List α} {i : Nat} {a : α} : l.toArray.setIfInBounds i a = (l.set i a).toArray := by simp
theorem zZ {α : Type _} {x a : α} {l : List α} : (x :: l).set 0 a = a :: l := rfl
theorem zS {α : Type _} {x a : α} {l : List α} {n : Nat} : (x :: l).set (n + 1) a = x :: l.set n a := rfl
theorem zC {α : Type _} {a : α} {l m : List α} : (a :: l) ++ m = a :: (l ++ m) := rfl
theorem zN {α : Type _} {l : List α} : [] ++ l = l := rfl
theorem zE {α : Type _} {a : α} {l : List α} {i : Nat} : (a :: l).eraseIdx (i + 1) = a :: l.eraseIdx i := rfl
theorem zF {α : Type _} {a : α} {l : List α} : (a :: l).eraseIdx 0 = l := rfl
abbrev qF (a b c d e : Int) : Value := .agg #[.int .i64 a, .int .i64 b, .int .i64 c, .int .i64 d, .int .i64 e]
abbrev qP {α β γ : Type} (ts : List α) (ks : List β) (fs : List γ) (A0 A1 A2 : Option Addr) (c0 c1 c2 : Nat) (tn : Int) (st : Bool) : Value := .agg #[.slice A0 ts.length c0, .slice A1 ks.length c1, .slice A2 fs.length c2, .int .i64 tn, .bool st]
structure T7 where (s l o wt on v t : Int)
structure F2 where (b : Bool) (v : Int)
def T7.cs (x : T7) : List Value := [.int .i64 x.s, .int .i64 x.l, .int .i64 x.o, .int .i64 x.wt, .int .i64 x.on, .int .i64 x.v, .int .i64 x.t]
def F2.cs (x : F2) : List Value := [.bool x.b, .int .i64 x.v]
def T7.val (x : T7) : Value := .agg #[.int .i64 x.s, .int .i64 x.l, .int .i64 x.o, .int .i64 x.wt, .int .i64 x.on, .int .i64 x.v, .int .i64 x.t]
def tcells (ts : List T7) : List Value := ts.flatMap T7.cs
def fcells (fs : List F2) : List Value := fs.flatMap F2.cs
def icells (ks : List Int) : List Value := ks.map (Value.int .i64)
instance : Inhabited T7 := ⟨⟨0, 0, 0, 0, 0, 0, 0⟩⟩
instance : Inhabited F2 := ⟨⟨false, 0⟩⟩
theorem tcells_length (ts : List T7) : (tcells ts).length = ts.length * 7 := by
 induction ts with
 | nil => rfl
 | cons x r ih => simp only [tcells, List.flatMap_cons, List.length_append, List.length_cons] at ih ⊢; rw [ih]; simp [T7.cs]; omega
theorem fcells_length (fs : List F2) : (fcells fs).length = fs.length * 2 := by
 induction fs with
 | nil => rfl
 | cons x r ih => simp only [fcells, List.flatMap_cons, List.length_append, List.length_cons] at ih ⊢; rw [ih]; simp [F2.cs]; omega
theorem icells_length (ks : List Int) : (icells ks).length = ks.length := by simp [icells]
theorem tcells_get (ts : List T7) (k : Nat) (hk : k < ts.length) (j : Nat) (hj : j < 7) : (tcells ts)[k * 7 + j]? = ts[k].cs[j]? := by
 induction ts generalizing k with
 | nil => simp at hk
 | cons x r ih =>
  have e : tcells (x :: r) = x.cs ++ tcells r := rfl
  rw [e]
  cases k with
  | zero => rw [List.getElem?_append_left (by simp [T7.cs]; omega)]; simp
  | succ k =>
   have hl : x.cs.length = 7 := rfl
   rw [List.getElem?_append_right (by rw [hl]; omega), hl, show (k + 1) * 7 + j - 7 = k * 7 + j from by omega, ih k (by simpa using hk)]
   simp
theorem fcells_get (fs : List F2) (k : Nat) (hk : k < fs.length) (j : Nat) (hj : j < 2) : (fcells fs)[k * 2 + j]? = fs[k].cs[j]? := by
 induction fs generalizing k with
 | nil => simp at hk
 | cons x r ih =>
  have e : fcells (x :: r) = x.cs ++ fcells r := rfl
  rw [e]
  cases k with
  | zero => rw [List.getElem?_append_left (by simp [F2.cs]; omega)]; simp
  | succ k =>
   have hl : x.cs.length = 2 := rfl
   rw [List.getElem?_append_right (by rw [hl]; omega), hl, show (k + 1) * 2 + j - 2 = k * 2 + j from by omega, ih k (by simpa using hk)]
   simp
theorem icells_get (ks : List Int) (k : Nat) (hk : k < ks.length) : (icells ks)[k]? = some (.int .i64 ks[k]) := by simp [icells, hk]
def Row (w : World) (A : Option Addr) (xs : List Value) : Prop :=
 0 < xs.length → ∃ b off : Nat, A = some ⟨b, off, none⟩ ∧ ∀ j u, xs[j]? = some u → w.cell? ⟨b, off + j, none⟩ = some u
section
variable {w w' : World} {A : Option Addr} {xs : List Value}
theorem Row.keep (h : Row w A xs) (hk : ∀ b, b < w.heap.size → w'.heap[b]? = w.heap[b]?) : Row w' A xs := fun hl => by
 obtain ⟨b, off, e, hc⟩ := h hl
 refine ⟨b, off, e, fun j u hu => ?_⟩
 have hb : b < w.heap.size := World.block_lt_of_cell? w _ (hc j u hu)
 exact (World.cell?_of_block (hk b hb)).trans (hc j u hu)
theorem Row.below (h : Row w A xs) (hb : Below w.heap.size w w') : Row w' A xs := h.keep fun b hlt => hb.block b hlt
theorem Row.nil : Row w A [] := fun h => absurd h (by simp)
theorem Row.of_own {base : Nat} {e : TypeId} {size n c : Nat} (h : w.ownsRow base e size (.slice A n c) n xs) : Row w A xs := fun hl => by
 have hn : 0 < n := by
  rcases Nat.eq_zero_or_pos n with h0 | h0
  ·subst h0; have := h.1; omega
  ·exact h0
 obtain ⟨g, cap, hv, _, hlt⟩ := h.form hn
 have hA : A = some ⟨g, 0, none⟩ := by injection hv
 subst hA
 refine ⟨g, 0, rfl, fun j u hu => ?_⟩
 have := h.cells (g := g) rfl j u hu
 rw [show (⟨g, 0, none⟩ : Addr).add j = ⟨g, 0 + j, none⟩ from by unfold Addr.add; split <;> simp_all] at this
 exact this
theorem Row.t7 {b off : Nat} {ts : List T7} (h : ∀ j u, (tcells ts)[j]? = some u → w.cell? ⟨b, off + j, none⟩ = some u) (k : Nat) (hk : k < ts.length) :
 w.cell? ⟨b, off + k * 7, none⟩ = some (.int .i64 ts[k].s) ∧ w.cell? ⟨b, off + k * 7 + 1, none⟩ = some (.int .i64 ts[k].l) ∧ w.cell? ⟨b, off + k * 7 + 2, none⟩ = some (.int .i64 ts[k].o) ∧
  w.cell? ⟨b, off + k * 7 + 3, none⟩ = some (.int .i64 ts[k].wt) ∧ w.cell? ⟨b, off + k * 7 + 4, none⟩ = some (.int .i64 ts[k].on) ∧ w.cell? ⟨b, off + k * 7 + 5, none⟩ = some (.int .i64 ts[k].v) ∧ w.cell? ⟨b, off + k * 7 + 6, none⟩ = some (.int .i64 ts[k].t) := by
 refine ⟨?_, ?_, ?_, ?_, ?_, ?_, ?_⟩
 ·exact h (k * 7 + 0) _ ((tcells_get ts k hk 0 (by omega)).trans rfl)
 ·exact h (k * 7 + 1) _ ((tcells_get ts k hk 1 (by omega)).trans rfl)
 ·exact h (k * 7 + 2) _ ((tcells_get ts k hk 2 (by omega)).trans rfl)
 ·exact h (k * 7 + 3) _ ((tcells_get ts k hk 3 (by omega)).trans rfl)
 ·exact h (k * 7 + 4) _ ((tcells_get ts k hk 4 (by omega)).trans rfl)
 ·exact h (k * 7 + 5) _ ((tcells_get ts k hk 5 (by omega)).trans rfl)
 ·exact h (k * 7 + 6) _ ((tcells_get ts k hk 6 (by omega)).trans rfl)
theorem Row.f2 {b off : Nat} {fs : List F2} (h : ∀ j u, (fcells fs)[j]? = some u → w.cell? ⟨b, off + j, none⟩ = some u) (k : Nat) (hk : k < fs.length) :
 w.cell? ⟨b, off + k * 2, none⟩ = some (.bool fs[k].b) ∧ w.cell? ⟨b, off + k * 2 + 1, none⟩ = some (.int .i64 fs[k].v) := by
 refine ⟨?_, ?_⟩
 ·exact h (k * 2 + 0) _ ((fcells_get fs k hk 0 (by omega)).trans rfl)
 ·exact h (k * 2 + 1) _ ((fcells_get fs k hk 1 (by omega)).trans rfl)
theorem Row.i1 {b off : Nat} {ks : List Int} (h : ∀ j u, (icells ks)[j]? = some u → w.cell? ⟨b, off + j, none⟩ = some u) (k : Nat) (hk : k < ks.length) :
 w.cell? ⟨b, off + k, none⟩ = some (.int .i64 ks[k]) := h k _ (icells_get ks k hk)
theorem Row.ts_at {ts : List T7} (h : Row w A (tcells ts)) {k : Nat} (hk : k < ts.length) : ∃ (b off : Nat) (s l o wt on v t : Int), A = some ⟨b, off, none⟩ ∧ ts.drop k = ⟨s, l, o, wt, on, v, t⟩ :: ts.drop (k + 1) ∧ ts[k]? = some ⟨s, l, o, wt, on, v, t⟩ ∧ b < w.heap.size ∧
 w.cell? ⟨b, off + k * 7, none⟩ = some (.int .i64 s) ∧ w.cell? ⟨b, off + k * 7 + 1, none⟩ = some (.int .i64 l) ∧ w.cell? ⟨b, off + k * 7 + 2, none⟩ = some (.int .i64 o) ∧
  w.cell? ⟨b, off + k * 7 + 3, none⟩ = some (.int .i64 wt) ∧ w.cell? ⟨b, off + k * 7 + 4, none⟩ = some (.int .i64 on) ∧ w.cell? ⟨b, off + k * 7 + 5, none⟩ = some (.int .i64 v) ∧ w.cell? ⟨b, off + k * 7 + 6, none⟩ = some (.int .i64 t) := by
 obtain ⟨b, off, e, hc⟩ := h (by rw [tcells_length]; omega)
 have hz := Row.t7 hc k hk
 exact ⟨b, off, _, _, _, _, _, _, _, e, (List.drop_eq_getElem_cons hk), by simp [hk], World.block_lt_of_cell? w _ hz.1, hz⟩
theorem Row.fs_at {fs : List F2} (h : Row w A (fcells fs)) {k : Nat} (hk : k < fs.length) : ∃ (b off : Nat) (s : Bool) (v : Int), A = some ⟨b, off, none⟩ ∧ fs.drop k = ⟨s, v⟩ :: fs.drop (k + 1) ∧ fs[k]? = some ⟨s, v⟩ ∧ b < w.heap.size ∧
 w.cell? ⟨b, off + k * 2, none⟩ = some (.bool s) ∧ w.cell? ⟨b, off + k * 2 + 1, none⟩ = some (.int .i64 v) := by
 obtain ⟨b, off, e, hc⟩ := h (by rw [fcells_length]; omega)
 have hz := Row.f2 hc k hk
 exact ⟨b, off, _, _, e, (List.drop_eq_getElem_cons hk), by simp [hk], World.block_lt_of_cell? w _ hz.1, hz⟩
theorem Row.ks_at {ks : List Int} (h : Row w A (icells ks)) {k : Nat} (hk : k < ks.length) : ∃ (b off : Nat) (v : Int), A = some ⟨b, off, none⟩ ∧ ks.drop k = v :: ks.drop (k + 1) ∧ ks[k]? = some v ∧ b < w.heap.size ∧
 w.cell? ⟨b, off + k, none⟩ = some (.int .i64 v) := by
 obtain ⟨b, off, e, hc⟩ := h (by rw [icells_length]; omega)
 have hz := Row.i1 hc k hk
 exact ⟨b, off, _, e, (List.drop_eq_getElem_cons hk), by simp [hk], World.block_lt_of_cell? w _ hz, hz⟩
end
theorem infoTask : (Tryz.prog.info? 45).map (fun i => (i.zero, i.size, i.bytes)) = some (some (.agg #[.int .i64 0, .int .i64 0, .int .i64 0, .int .i64 0, .int .i64 0, .int .i64 0, .int .i64 0]), 7, 56) := by kernel_rfl
theorem infoInt : (Tryz.prog.info? 2).map (fun i => (i.zero, i.size, i.bytes)) = some (some (.int .i64 0), 1, 8) := by kernel_rfl
theorem infoFut : (Tryz.prog.info? 103).map (fun i => (i.zero, i.size, i.bytes)) = some (some (.agg #[.bool false, .int .i64 0]), 2, 16) := by kernel_rfl
theorem tcells_at (ts : List T7) (j : Nat) : (tcells ts)[j]? = (ts[j / 7]?).bind (fun t => t.cs[j % 7]?) := by
 by_cases h : j / 7 < ts.length
 ·have := tcells_get ts (j / 7) h (j % 7) (by omega)
  rw [show j / 7 * 7 + j % 7 = j from by omega] at this
  rw [this]; simp [h]
 ·rw [List.getElem?_eq_none (by rw [tcells_length]; omega), List.getElem?_eq_none (by omega)]; rfl
theorem fcells_at (fs : List F2) (j : Nat) : (fcells fs)[j]? = (fs[j / 2]?).bind (fun t => t.cs[j % 2]?) := by
 by_cases h : j / 2 < fs.length
 ·have := fcells_get fs (j / 2) h (j % 2) (by omega)
  rw [show j / 2 * 2 + j % 2 = j from by omega] at this
  rw [this]; simp [h]
 ·rw [List.getElem?_eq_none (by rw [fcells_length]; omega), List.getElem?_eq_none (by omega)]; rfl
theorem tcells_put (us : List T7) (k : Nat) (t : T7) :
 (((((((tcells us).set (k * 7) (.int .i64 t.s)).set (k * 7 + 1) (.int .i64 t.l)).set (k * 7 + 2) (.int .i64 t.o)).set (k * 7 + 3) (.int .i64 t.wt)).set (k * 7 + 4) (.int .i64 t.on)).set (k * 7 + 5) (.int .i64 t.v)).set (k * 7 + 6) (.int .i64 t.t) = tcells (us.set k t) := by
 apply List.ext_getElem?
 intro j
 rw [tcells_at (us.set k t)]
 simp only [List.getElem?_set, List.length_set, tcells_length]
 by_cases hk : k = j / 7
 ·subst hk
  by_cases hl : j / 7 < us.length
  ·have h7 : j % 7 = 0 ∨ j % 7 = 1 ∨ j % 7 = 2 ∨ j % 7 = 3 ∨ j % 7 = 4 ∨ j % 7 = 5 ∨ j % 7 = 6 := by omega
   have hj : j < us.length * 7 := by omega
   rcases h7 with h | h | h | h | h | h | h
   all_goals rw [h]
   all_goals simp only [hl, if_true, Option.bind_some, T7.cs]
   ·rw [if_neg (by omega), if_neg (by omega), if_neg (by omega), if_neg (by omega), if_neg (by omega), if_neg (by omega), if_pos (by omega), if_pos (by omega)]; rfl
   ·rw [if_neg (by omega), if_neg (by omega), if_neg (by omega), if_neg (by omega), if_neg (by omega), if_pos (by omega), if_pos (by omega)]; rfl
   ·rw [if_neg (by omega), if_neg (by omega), if_neg (by omega), if_neg (by omega), if_pos (by omega), if_pos (by omega)]; rfl
   ·rw [if_neg (by omega), if_neg (by omega), if_neg (by omega), if_pos (by omega), if_pos (by omega)]; rfl
   ·rw [if_neg (by omega), if_neg (by omega), if_pos (by omega), if_pos (by omega)]; rfl
   ·rw [if_neg (by omega), if_pos (by omega), if_pos (by omega)]; rfl
   ·rw [if_pos (by omega), if_pos (by omega)]; rfl
  ·simp only [hl, if_false, if_true, Option.bind_none]
   repeat (split; · first | omega | (split <;> first | omega | rfl))
   rw [List.getElem?_eq_none (by rw [tcells_length]; omega)]
 ·rw [if_neg hk, if_neg (by omega), if_neg (by omega), if_neg (by omega), if_neg (by omega), if_neg (by omega), if_neg (by omega), if_neg (by omega), tcells_at]
theorem fcells_put (us : List F2) (k : Nat) (t : F2) : ((fcells us).set (k * 2) (.bool t.b)).set (k * 2 + 1) (.int .i64 t.v) = fcells (us.set k t) := by
 apply List.ext_getElem?
 intro j
 rw [fcells_at (us.set k t)]
 simp only [List.getElem?_set, List.length_set, fcells_length]
 by_cases hk : k = j / 2
 ·subst hk
  by_cases hl : j / 2 < us.length
  ·have h7 : j % 2 = 0 ∨ j % 2 = 1 := by omega
   have hj : j < us.length * 2 := by omega
   rcases h7 with h | h
   all_goals rw [h]
   all_goals simp only [hl, if_true, Option.bind_some, F2.cs]
   ·rw [if_neg (by omega), if_pos (by omega), if_pos (by omega)]; rfl
   ·rw [if_pos (by omega), if_pos (by omega)]; rfl
  ·simp only [hl, if_false, if_true, Option.bind_none]
   repeat (split; · first | omega | (split <;> first | omega | rfl))
   rw [List.getElem?_eq_none (by rw [fcells_length]; omega)]
 ·rw [if_neg hk, if_neg (by omega), if_neg (by omega), fcells_at]
theorem icells_put (us : List Int) (k : Nat) (v : Int) : (icells us).set k (.int .i64 v) = icells (us.set k v) := by simp [icells, List.map_set]
theorem fmade (n : Nat) : (madeCells (Value.agg #[.bool false, .int .i64 0]).cells (n * 2)).toList = fcells (List.replicate n ⟨false, 0⟩) := by
 apply List.ext_getElem?
 intro j
 rw [fcells_at]
 have h7 : j % 2 = 0 ∨ j % 2 = 1 := by omega
 by_cases hj : j < n * 2
 ·have hk : j / 2 < n := by omega
  rcases h7 with h | h
  all_goals simp [madeCells, hj, hk, h, F2.cs, Value.cells]
 ·have hk : ¬ j / 2 < n := by omega
  simp [madeCells, hj, hk]
theorem imade (n : Nat) : (madeCells (Value.int .i64 0).cells (n * 1)).toList = icells (List.replicate n 0) := by
 rw [Nat.mul_one]
 show (madeCells #[.int .i64 0] n).toList = _
 rw [toList_madeCells_one]; simp [icells]
section
variable {w : World} {base : Nat} {e : TypeId} {g n c : Nat}
theorem Own.t7 {us : List T7} (h : w.ownsRow base e 7 (.slice (some ⟨g, 0, none⟩) n c) n (tcells us)) {k : Nat} (hk : k < us.length) : ∃ s l o wt on v t : Int, us[k]? = some ⟨s, l, o, wt, on, v, t⟩ ∧
 w.cell? ⟨g, k * 7, none⟩ = some (.int .i64 s) ∧ w.cell? ⟨g, k * 7 + 1, none⟩ = some (.int .i64 l) ∧ w.cell? ⟨g, k * 7 + 2, none⟩ = some (.int .i64 o) ∧ w.cell? ⟨g, k * 7 + 3, none⟩ = some (.int .i64 wt) ∧
  w.cell? ⟨g, k * 7 + 4, none⟩ = some (.int .i64 on) ∧ w.cell? ⟨g, k * 7 + 5, none⟩ = some (.int .i64 v) ∧ w.cell? ⟨g, k * 7 + 6, none⟩ = some (.int .i64 t) := by
 obtain ⟨b, off, s, l, o, wt, on, v, t, e1, _, hu, _, z⟩ := (Row.of_own h).ts_at hk
 injection e1 with e1; injection e1 with e1 e2; subst e1 e2
 simp only [Nat.zero_add] at z
 exact ⟨s, l, o, wt, on, v, t, hu, z⟩
theorem Own.f2 {us : List F2} (h : w.ownsRow base e 2 (.slice (some ⟨g, 0, none⟩) n c) n (fcells us)) {k : Nat} (hk : k < us.length) : ∃ (s : Bool) (v : Int), us[k]? = some ⟨s, v⟩ ∧
 w.cell? ⟨g, k * 2, none⟩ = some (.bool s) ∧ w.cell? ⟨g, k * 2 + 1, none⟩ = some (.int .i64 v) := by
 obtain ⟨b, off, s, v, e1, _, hu, _, z⟩ := (Row.of_own h).fs_at hk
 injection e1 with e1; injection e1 with e1 e2; subst e1 e2
 simp only [Nat.zero_add] at z
 exact ⟨s, v, hu, z⟩
theorem Own.i1 {us : List Int} (h : w.ownsRow base e 1 (.slice (some ⟨g, 0, none⟩) n c) n (icells us)) {k : Nat} (hk : k < us.length) : ∃ v : Int, us[k]? = some v ∧ w.cell? ⟨g, k, none⟩ = some (.int .i64 v) := by
 obtain ⟨b, off, v, e1, _, hu, _, z⟩ := (Row.of_own h).ks_at hk
 injection e1 with e1; injection e1 with e1 e2; subst e1 e2
 simp only [Nat.zero_add] at z
 exact ⟨v, hu, z⟩
theorem Own.fz {size : Nat} {xs : List Value} (h : w.ownsRow base e size (.slice (some ⟨g, 0, none⟩) n c) n xs) : ∀ j, w.frozen? ⟨g, j, none⟩ = false := fun j => h.frozenAt j
theorem Own.put7 {us : List T7} (h : w.ownsRow base e 7 (.slice (some ⟨g, 0, none⟩) n c) n (tcells us)) (k : Nat) (s l o wt on v t : Int) :
 (((((((w.setCell ⟨g, k * 7, none⟩ (.int .i64 s)).setCell ⟨g, k * 7 + 1, none⟩ (.int .i64 l)).setCell ⟨g, k * 7 + 2, none⟩ (.int .i64 o)).setCell ⟨g, k * 7 + 3, none⟩ (.int .i64 wt)).setCell ⟨g, k * 7 + 4, none⟩ (.int .i64 on)).setCell ⟨g, k * 7 + 5, none⟩ (.int .i64 v)).setCell ⟨g, k * 7 + 6, none⟩ (.int .i64 t)).ownsRow base e 7 (.slice (some ⟨g, 0, none⟩) n c) n (tcells (us.set k ⟨s, l, o, wt, on, v, t⟩)) := by
 rw [← tcells_put]
 exact (((((((h.stored (k * 7) _).1.stored (k * 7 + 1) _).1.stored (k * 7 + 2) _).1.stored (k * 7 + 3) _).1.stored (k * 7 + 4) _).1.stored (k * 7 + 5) _).1.stored (k * 7 + 6) _).1
theorem Own.below {w' : World} {size : Nat} {v : Value} {xs : List Value} (h : w.ownsRow base e size v n xs) (hb : Below w.heap.size w w') : w'.ownsRow base e size v n xs :=
 h.kept (only_of_below hb none) (by
  rcases h' : v.ownBlock with _ | g
  ·exact .inl rfl
  ·exact .inr (by simp))
theorem Own.lower {b2 size : Nat} {v : Value} {xs : List Value} (h : w.ownsRow base e size v n xs) (hb : b2 ≤ base) : w.ownsRow b2 e size v n xs := by
 refine ⟨h.1, ?_⟩
 rcases h.2 with h2 | ⟨g, cap, cur, h3, h4, h5⟩
 ·exact .inl h2
 ·exact .inr ⟨g, cap, cur, h3, by omega, h5⟩
end
def OwnR (w : World) (lo hi : Nat) (e : TypeId) (size : Nat) (v : Value) (n : Nat) (xs : List Value) : Prop := w.ownsRow lo e size v n xs ∧ ∀ k, v.ownBlock = some k → k < hi
section
variable {w w' : World} {lo hi : Nat} {e : TypeId} {size n c : Nat} {v : Value} {xs : List Value} {A : Option Addr}
theorem OwnR.of (h : w.ownsRow lo e size v n xs) (hh : w.heap.size ≤ hi) : OwnR w lo hi e size v n xs := ⟨h, fun k hk => Nat.lt_of_lt_of_le (h.lt k hk).2 hh⟩
theorem OwnR.row (h : OwnR w lo hi e size (.slice A n c) n xs) : Row w A xs := Row.of_own h.1
theorem OwnR.below (h : OwnR w lo hi e size v n xs) (hb : Below w.heap.size w w') : OwnR w' lo hi e size v n xs := ⟨Own.below h.1 hb, h.2⟩
theorem OwnR.alloc (h : OwnR w lo hi e size v n xs) (o : Obj) : OwnR (w.alloc o) lo hi e size v n xs := ⟨h.1.alloc o, h.2⟩
theorem OwnR.wide {l2 h2 : Nat} (h : OwnR w lo hi e size v n xs) (hl : l2 ≤ lo) (hh : hi ≤ h2) : OwnR w l2 h2 e size v n xs := ⟨Own.lower h.1 hl, fun k hk => by have := h.2 k hk; omega⟩
theorem OwnR.store (h : OwnR w lo hi e size v n xs) {p : Addr} (hp : p.block < lo ∨ hi ≤ p.block) (u : Value) : OwnR (w.setCell p u) lo hi e size v n xs := by
 refine ⟨h.1.kept (row := some p.block) ⟨rfl, rfl, rfl, by simp [World.setCell], fun i hi hne => Below.heap_setCell w p u i (by intro e; exact hne (by rw [e]))⟩ ?_, h.2⟩
 rcases hv : v.ownBlock with _ | g
 ·exact .inl rfl
 ·refine .inr fun he => ?_
  injection he with he
  have h1 := (h.1.lt g hv).1
  have h2 := h.2 g hv
  omega
theorem OwnR.drew (h : OwnR w lo hi e size v n xs) : OwnR w.drew lo hi e size v n xs := h
end
theorem take_set {α : Type} {us ts : List α} {k : Nat} {x : α} (hl : us.length = ts.length) (h : us.take k = ts.take k) (hx : ts[k]? = some x) : (us.set k x).take (k + 1) = ts.take (k + 1) := by
 have hk : k < ts.length := by
  rcases Nat.lt_or_ge k ts.length with h1 | h1
  ·exact h1
  ·rw [List.getElem?_eq_none h1] at hx; cases hx
 apply List.ext_getElem?
 intro j
 simp only [List.getElem?_take]
 by_cases hj : j < k + 1
 ·simp only [hj, if_true]
  by_cases he : k = j
  ·subst he; rw [List.getElem?_set_self (by omega), hx]
  ·rw [List.getElem?_set_ne he]
   have := congrArg (·[j]?) h
   simp only [List.getElem?_take] at this
   have hjk : j < k := by omega
   simpa [hjk] using this
 ·simp [hj]
end Go.Proofs.YtfkdfkoigojciaaGreatDoor
