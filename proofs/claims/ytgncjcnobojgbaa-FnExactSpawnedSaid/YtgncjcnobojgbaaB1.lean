/- copy of a whole list of elements of whatever size into a new row of the same length: a law for a walk. No condition. -/
import Derived.Test.YtgncjcnobojgbaaRows
import Derived.WalkKit
import Derived.WalkSpells
import Derived.WalkLawsBesides
import Derived.Handy
import Derived.Below
import Derived.Calls
import Derived.Laws.OwnMore
import Derived.Laws.Rows
import Derived.Deep.AppendLies
import Derived.Deep.Draws
import Derived.Deep.OwnRows
import Derived.OwnWalk
import Derived.Laws.AppendOwn
import Derived.Deep.QuietTactic
import Derived.BigQuiet
import Derived.RegionTactic
import Derived.ChangeAlike
import Derived.LoopTactic
import Derived.Lib.Hide
import Derived.IntWalk
import Derived.Laws.BitsAllLaws
import Derived.Laws.BitsLemmas
import Derived.Deep.Quiet
import Derived.Deep.RegionLaw
import Derived.Laws.CopyRow
import Derived.Laws.IdiomCopy
import Derived.Deep.RegionHeld3

namespace Go.Proofs.Ytgncjcnobojgbaa
open Go.RowKit

theorem hide {p : Prop} (h : p) : Hid p := h
theorem unhide {p : Prop} (h : Hid p) : p := h

theorem block_of_add (a : Addr) (n : Nat) : (a.add n).block = a.block := by unfold Addr.add; split <;> rfl
theorem add_of_add (a : Addr) (i j : Nat) : (a.add i).add j = a.add (i + j) := by
  unfold Addr.add
  by_cases hi : i = 0 <;> by_cases hj : j = 0 <;> simp [hi, hj, Nat.add_assoc]

def Reads (w : World) (B size : Nat) (A : Option Addr) (n : Nat) (xs : List Value) : Prop :=
  xs.length = n * size ∧ (0 < n → ∃ ad, A = some ad ∧ ad.block < B ∧ ∀ j u, xs[j]? = some u → w.cell? (ad.add j) = some u)

section
variable {w w' : World} {B B' size n : Nat} {A : Option Addr} {xs : List Value}
theorem Reads.none_ : Reads w B size A 0 [] := ⟨by simp, fun h => absurd h (by omega)⟩
theorem Reads.at_ {k : Nat} (h : Reads w B 1 A n xs) (hk : k < n) : ∃ ad u, A = some ad ∧ ad.block < B ∧ xs[k]? = some u ∧ w.cell? (ad.add k) = some u := by
  obtain ⟨ad, e, hb, hc⟩ := h.2 (by omega)
  have hl : k < xs.length := by have := h.1; omega
  exact ⟨ad, xs[k], e, hb, List.getElem?_eq_getElem hl, hc k _ (List.getElem?_eq_getElem hl)⟩
theorem Reads.keep (h : Reads w B size A n xs) (hk : ∀ p : Addr, p.block < B → w'.cell? p = w.cell? p) : Reads w' B size A n xs :=
  ⟨h.1, fun hn => by
    obtain ⟨ad, e, hb, hc⟩ := h.2 hn
    exact ⟨ad, e, hb, fun j u hu => (hk _ (by rw [block_of_add]; exact hb)).trans (hc j u hu)⟩⟩
theorem Reads.more (h : Reads w B size A n xs) (hB : B ≤ B') : Reads w B' size A n xs :=
  ⟨h.1, fun hn => by
    obtain ⟨ad, e, hb, hc⟩ := h.2 hn
    exact ⟨ad, e, by omega, hc⟩⟩
theorem Reads.below (h : Reads w B size A n xs) (hb : Below B w w') : Reads w' B size A n xs := h.keep fun _ hp => hb.cell hp
theorem Reads.drew (h : Reads w B size A n xs) : Reads w.drew B size A n xs := h
theorem Reads.drewN (h : Reads w B size A n xs) (k : Nat) : Reads (w.drewN k) B size A n xs := h
theorem Reads.alloc (h : Reads w B size A n xs) (hB : B ≤ w.heap.size) (o : Obj) : Reads (w.alloc o) B size A n xs := h.keep fun p hp => World.cell?_alloc_lt w o p (by omega)
theorem Reads.setCell (h : Reads w B size A n xs) {p : Addr} (hB : B ≤ p.block) (u : Value) : Reads (w.setCell p u) B size A n xs :=
  h.keep fun q hq => World.cell?_setCell_other w p q u (fun e => by subst e; omega)
theorem Reads.grown (h : Reads w B size A n xs) {row : Option Nat} (hg : w.grownBy w' row) (hB : B ≤ w.heap.size) (hr : ∀ g, row = some g → B ≤ g) : Reads w' B size A n xs :=
  h.keep fun p hp => World.cell?_of_block (hg.block p.block (by omega) (fun e => by have := hr _ e.symm; omega))
theorem Reads.cut (h : Reads w B size A n xs) {k cap : Nat} (hk : k ≤ n) (hc : n ≤ cap) :
    Reads w B size (if cap = k then A else A.map (·.add (k * size))) (n - k) (xs.drop (k * size)) := by
  refine ⟨by rw [List.length_drop, h.1, Nat.sub_mul], fun hn => ?_⟩
  obtain ⟨ad, rfl, hb, hcell⟩ := h.2 (by omega)
  rw [if_neg (by omega)]
  refine ⟨ad.add (k * size), rfl, by rw [block_of_add]; exact hb, fun j u hu => ?_⟩
  rw [add_of_add]
  exact hcell _ u (by rw [← hu, List.getElem?_drop])
theorem Reads.of_own {base : Nat} {e : TypeId} {c : Nat} (h : w.ownsRow base e size (.slice A n c) n xs) : Reads w w.heap.size size A n xs := by
  refine ⟨h.1, fun hn => ?_⟩
  obtain ⟨g, cap, hv, _, hlt⟩ := h.form hn
  have hA : A = some ⟨g, 0, none⟩ := by injection hv
  subst hA
  exact ⟨_, rfl, hlt, h.cells (g := g) rfl⟩
end

def Blk (w : World) (g : Nat) (t : TypeId) (cs : Array Value) : Prop := w.heap[g]? = some (.cells cs t (0, 0))

section
variable {w w' : World} {g : Nat} {t : TypeId} {cs : Array Value}
theorem Blk.lt (h : Blk w g t cs) : g < w.heap.size := by
  rcases Nat.lt_or_ge g w.heap.size with hlt | hge
  · exact hlt
  · unfold Blk at h; rw [Array.getElem?_eq_none hge] at h; cases h
theorem Blk.cell (h : Blk w g t cs) (i : Nat) : w.cell? ⟨g, i, none⟩ = cs[i]? := cell_of_row w g i cs t (0, 0) h
theorem Blk.frozen (h : Blk w g t cs) (i : Nat) : w.frozen? ⟨g, i, none⟩ = false := by
  unfold Blk at h
  simp [World.frozen?, h]
theorem Blk.new (w : World) (t : TypeId) (cs : Array Value) : Blk (w.alloc (.cells cs t)) w.heap.size t cs := heap_alloc_new w _
theorem Blk.drew (h : Blk w g t cs) : Blk w.drew g t cs := h
theorem Blk.drewN (h : Blk w g t cs) (n : Nat) : Blk (w.drewN n) g t cs := h
theorem Blk.alloc (h : Blk w g t cs) (o : Obj) : Blk (w.alloc o) g t cs := (Below.heap_alloc w o g h.lt).trans h
theorem Blk.set_ (h : Blk w g t cs) (i : Nat) (u : Value) : Blk (w.setCell ⟨g, i, none⟩ u) g t (cs.setIfInBounds i u) := by
  unfold Blk at h ⊢
  simp [World.setCell, Array.getElem?_modify, h]
theorem Blk.far (h : Blk w g t cs) {p : Addr} (hp : g ≠ p.block) (u : Value) : Blk (w.setCell p u) g t cs := (Below.heap_setCell w p u g hp).trans h
theorem Blk.below {B : Nat} (h : Blk w g t cs) (hb : Below B w w') (hg : g < B) : Blk w' g t cs := (hb.block g hg).trans h
theorem Blk.grown {row : Option Nat} (h : Blk w g t cs) (hb : w.grownBy w' row) (hg : some g ≠ row) : Blk w' g t cs := (hb.block g h.lt hg).trans h
theorem Blk.ne_ {g' : Nat} {t' : TypeId} {cs' : Array Value} (h : Blk w g t cs) (h' : Blk w g' t' cs') (hne : t ≠ t') : g ≠ g' := by
  rintro rfl
  unfold Blk at h h'
  rw [h] at h'
  injection h' with h'
  injection h' with _ ht
  exact hne ht
theorem own_blk_ne {base : Nat} {e : TypeId} {size n : Nat} {v : Value} {xs : List Value} (h : w.ownsRow base e size v n xs) (hg : Blk w g t cs) (hne : e ≠ t) : v.ownBlock ≠ some g := by
  rcases h.2 with ⟨rfl, _⟩ | ⟨g', cap, cur, rfl, _, hh, _⟩
  · simp [Value.ownBlock]
  · intro he
    have : g' = g := by simpa [Value.ownBlock] using he
    subst this
    exact Blk.ne_ (t := e) hh hg hne rfl
end

theorem below_drewN {B : Nat} {a w : World} (h : Below B a w) (n : Nat) : Below B a (w.drewN n) := ⟨h.os, h.tape, h.output, h.size, h.block⟩
theorem rowIs_drewN {w : World} {b : Nat} {t : TypeId} {n : Nat} {f : Nat → Value} (h : w.rowIs b t n f) (k : Nat) : (w.drewN k).rowIs b t n f := h
theorem grown_trans {a b c : World} (h : Grown a b) (k : Grown b c) : Grown a c :=
  ⟨World.keptBut_trans h.1 k.1, fun x => (k.2.1 x).trans (h.2.1 x), Nat.le_trans h.2.2 k.2.2⟩

theorem only_drewN {a w : World} {row : Option Nat} (h : a.grownBy w row) (n : Nat) : a.grownBy (w.drewN n) row := ⟨h.os, h.tape, h.output, h.size, h.block⟩
theorem only_drew {a w : World} {row : Option Nat} (h : a.grownBy w row) : a.grownBy w.drew row := ⟨h.os, h.tape, h.output, h.size, h.block⟩
theorem only_alloc {a w : World} {row : Option Nat} (h : a.grownBy w row) (o : Obj) : a.grownBy (w.alloc o) row :=
  ⟨h.os, h.tape, h.output, Nat.le_trans h.size (by simp), fun i hi hne => (Below.heap_alloc w o i (Nat.lt_of_lt_of_le hi h.size)).trans (h.block i hi hne)⟩
theorem only_setCell {a w : World} {g : Nat} (h : a.grownBy w (some g)) {p : Addr} (hp : p.block = g ∨ a.heap.size ≤ p.block) (u : Value) : a.grownBy (w.setCell p u) (some g) :=
  ⟨h.os, h.tape, h.output, by simpa [World.setCell] using h.size, fun i hi hne => (Below.heap_setCell w p u i (by
    rintro rfl
    rcases hp with hp | hp
    · exact hne (by rw [hp])
    · omega)).trans (h.block i hi hne)⟩
theorem only_of_below {a w : World} (h : Below a.heap.size a w) (row : Option Nat) : a.grownBy w row := ⟨h.os, h.tape, h.output, h.size, fun i hi _ => h.block i hi⟩

theorem grownBy_trans {a b c : World} {row : Option Nat} (h : a.grownBy b row) (k : b.grownBy c row) : a.grownBy c row :=
  ⟨k.os.trans h.os, k.tape.trans h.tape, k.output.trans h.output, Nat.le_trans h.size k.size, fun i hi hn => (k.block i (Nat.lt_of_lt_of_le hi h.size) hn).trans (h.block i hi hn)⟩
theorem only_below {a b c : World} {row : Option Nat} (h : a.grownBy b row) (k : Below b.heap.size b c) : a.grownBy c row := grownBy_trans h (only_of_below k row)
theorem grown_then_below {a b c : World} {row : Option Nat} (h : a.grownBy b row) (k : Below a.heap.size b c) : a.grownBy c row :=
  ⟨k.os.trans h.os, k.tape.trans h.tape, k.output.trans h.output, Nat.le_trans h.size k.size, fun i hi hn => (k.block i hi).trans (h.block i hi hn)⟩
theorem below_only {B : Nat} {a b c : World} {g : Nat} (h : Below B a b) (k : b.grownBy c (some g)) (hg : B ≤ g) (hB : B ≤ b.heap.size) : Below B a c :=
  ⟨k.os.trans h.os, k.tape.trans h.tape, k.output.trans h.output, Nat.le_trans h.size k.size, fun i hi => (k.block i (by omega) (by intro e; injection e; omega)).trans (h.block i hi)⟩
theorem bcell {W w1 : World} (hb : Below W.heap.size W w1) : (∀ b o, b < W.heap.size → w1.cell? ⟨b, o, none⟩ = W.cell? ⟨b, o, none⟩) ∧ (∀ b o, b < W.heap.size → w1.frozen? ⟨b, o, none⟩ = W.frozen? ⟨b, o, none⟩) :=
  ⟨fun b o h => hb.cell (p := ⟨b, o, none⟩) h, fun b o h => hb.frozen (p := ⟨b, o, none⟩) h⟩

/-- The bytes of a slice that came in, below block B. -/
def Bytes (w : World) (B : Nat) (A : Option Addr) (len : Nat) : Prop :=
  0 < len → ∃ b off : Nat, A = some ⟨b, off, none⟩ ∧ b < B ∧ ∀ k, k < len → ∃ z : Int, 0 ≤ z ∧ z ≤ 255 ∧ w.cell? ⟨b, off + k, none⟩ = some (.int .u8 z)
theorem Bytes.keep {w w' : World} {B len : Nat} {A : Option Addr} (h : Bytes w B A len) (hk : ∀ b, b < B → w'.heap[b]? = w.heap[b]?) : Bytes w' B A len := by
  intro hl
  obtain ⟨b, off, e, hb, hc⟩ := h hl
  refine ⟨b, off, e, hb, fun k hkk => ?_⟩
  obtain ⟨z, h0, h1, h2⟩ := hc k hkk
  exact ⟨z, h0, h1, (World.cell?_of_block (hk b hb)).trans h2⟩

theorem bytes_of_row {w : World} {x : Addr} {len cap : Nat} {zs : List Int} (hl : len ≤ cap) (hz : zs.length = cap) (hcell : ∀ i, i < zs.length → w.cell? (x.add i) = some (.int .u8 (zs.getD i 0)))
    (hwz : ∀ n ∈ zs, (Lit.int .u8 n).wf = true) : Bytes w w.heap.size (some x) len := by
  intro h0
  have c0 := hcell 0 (by omega)
  obtain ⟨b, off, spot⟩ := x
  have hspot : spot = none := by simpa [Addr.add] using World.cell?_spot c0
  subst hspot
  have hb : b < w.heap.size := World.block_lt_of_cell? w _ (by simpa [Addr.add] using c0)
  refine ⟨b, off, rfl, hb, fun k hk => ⟨zs.getD k 0, ?_, ?_, ?_⟩⟩
  all_goals have hkz : k < zs.length := by omega
  all_goals have hm : zs.getD k 0 ∈ zs := by rw [List.getD_eq_getElem?_getD, List.getElem?_eq_getElem hkz]; exact List.getElem_mem hkz
  · have := hwz _ hm; simp [Lit.wf, IntKind.min, IntKind.max, IntKind.signed, IntKind.bits] at this ⊢; try omega
  · have := hwz _ hm; simp [Lit.wf, IntKind.min, IntKind.max, IntKind.signed, IntKind.bits] at this ⊢; try omega
  · have := hcell k hkz; rw [← this]; congr 1; simp [Addr.add]; try omega
theorem Blk.to {w : World} {g : Nat} {t : TypeId} {cs cs' : Array Value} (h : Blk w g t cs) (e : cs = cs') : Blk w g t cs' := e ▸ h
theorem and_le_u64 (a : Int) (m : Nat) (hm : m < 9223372036854775808) : 0 ≤ bits .and .u64 a (m : Int) ∧ bits .and .u64 a (m : Int) ≤ m := by
  have e : bits .and .u64 a (m : Int) = IntKind.u64.wrap (((BitVec.ofInt 64 a &&& BitVec.ofInt 64 (m : Int)).toNat : Nat) : Int) := rfl
  have h2 := Nat.and_le_right (n := (BitVec.ofInt 64 a).toNat) (m := m)
  rw [e, BitVec.toNat_and, ofInt_u64 m (by omega), IntKind.wrap_u64]
  omega
theorem and_le_i64 (a : Int) (m : Nat) (hm : m < 9223372036854775808) : 0 ≤ bits .and .i64 a (m : Int) ∧ bits .and .i64 a (m : Int) ≤ m := by
  have e : bits .and .i64 a (m : Int) = IntKind.i64.wrap (((BitVec.ofInt 64 a &&& BitVec.ofInt 64 (m : Int)).toNat : Nat) : Int) := rfl
  have h2 := Nat.and_le_right (n := (BitVec.ofInt 64 a).toNat) (m := m)
  rw [e, BitVec.toNat_and, ofInt_u64 m (by omega), IntKind.wrap_i64]
  omega
theorem and24 (a : Int) : 0 ≤ bits .and .u64 a 16777215 ∧ bits .and .u64 a 16777215 ≤ 16777215 := and_le_u64 a 16777215 (by decide)
theorem and8 (a : Int) : 0 ≤ bits .and .i64 a 255 ∧ bits .and .i64 a 255 ≤ 255 := and_le_i64 a 255 (by decide)
/-! What is known of a block: all its cells at once. -/
theorem Blk.f1 {W : World} {g : Nat} {t : TypeId} {v0 : Value} (h : Blk W g t #[v0]) : g < W.heap.size ∧ W.cell? ⟨g, 0, none⟩ = some v0 ∧ W.frozen? ⟨g, 0, none⟩ = false := ⟨h.lt, h.cell 0, h.frozen 0⟩
theorem Blk.q1 {W : World} {g : Nat} {t : TypeId} {v0 : Value} (h : Blk W g t #[v0]) : g < W.heap.size ∧ W.cell? ⟨g, 0, none⟩ = some v0 := ⟨h.lt, h.cell 0⟩
theorem Blk.f2 {W : World} {g : Nat} {t : TypeId} {v0 v1 : Value} (h : Blk W g t #[v0, v1]) : g < W.heap.size ∧ W.cell? ⟨g, 0, none⟩ = some v0 ∧ W.frozen? ⟨g, 0, none⟩ = false ∧ W.cell? ⟨g, 1, none⟩ = some v1 ∧ W.frozen? ⟨g, 1, none⟩ = false := ⟨h.lt, h.cell 0, h.frozen 0, h.cell 1, h.frozen 1⟩
theorem Blk.q2 {W : World} {g : Nat} {t : TypeId} {v0 v1 : Value} (h : Blk W g t #[v0, v1]) : g < W.heap.size ∧ W.cell? ⟨g, 0, none⟩ = some v0 ∧ W.cell? ⟨g, 1, none⟩ = some v1 := ⟨h.lt, h.cell 0, h.cell 1⟩
theorem Blk.f3 {W : World} {g : Nat} {t : TypeId} {v0 v1 v2 : Value} (h : Blk W g t #[v0, v1, v2]) : g < W.heap.size ∧ W.cell? ⟨g, 0, none⟩ = some v0 ∧ W.frozen? ⟨g, 0, none⟩ = false ∧ W.cell? ⟨g, 1, none⟩ = some v1 ∧ W.frozen? ⟨g, 1, none⟩ = false ∧ W.cell? ⟨g, 2, none⟩ = some v2 ∧ W.frozen? ⟨g, 2, none⟩ = false := ⟨h.lt, h.cell 0, h.frozen 0, h.cell 1, h.frozen 1, h.cell 2, h.frozen 2⟩
theorem Blk.q3 {W : World} {g : Nat} {t : TypeId} {v0 v1 v2 : Value} (h : Blk W g t #[v0, v1, v2]) : g < W.heap.size ∧ W.cell? ⟨g, 0, none⟩ = some v0 ∧ W.cell? ⟨g, 1, none⟩ = some v1 ∧ W.cell? ⟨g, 2, none⟩ = some v2 := ⟨h.lt, h.cell 0, h.cell 1, h.cell 2⟩
theorem Blk.f4 {W : World} {g : Nat} {t : TypeId} {v0 v1 v2 v3 : Value} (h : Blk W g t #[v0, v1, v2, v3]) : g < W.heap.size ∧ W.cell? ⟨g, 0, none⟩ = some v0 ∧ W.frozen? ⟨g, 0, none⟩ = false ∧ W.cell? ⟨g, 1, none⟩ = some v1 ∧ W.frozen? ⟨g, 1, none⟩ = false ∧ W.cell? ⟨g, 2, none⟩ = some v2 ∧ W.frozen? ⟨g, 2, none⟩ = false ∧ W.cell? ⟨g, 3, none⟩ = some v3 ∧ W.frozen? ⟨g, 3, none⟩ = false := ⟨h.lt, h.cell 0, h.frozen 0, h.cell 1, h.frozen 1, h.cell 2, h.frozen 2, h.cell 3, h.frozen 3⟩
theorem Blk.q4 {W : World} {g : Nat} {t : TypeId} {v0 v1 v2 v3 : Value} (h : Blk W g t #[v0, v1, v2, v3]) : g < W.heap.size ∧ W.cell? ⟨g, 0, none⟩ = some v0 ∧ W.cell? ⟨g, 1, none⟩ = some v1 ∧ W.cell? ⟨g, 2, none⟩ = some v2 ∧ W.cell? ⟨g, 3, none⟩ = some v3 := ⟨h.lt, h.cell 0, h.cell 1, h.cell 2, h.cell 3⟩
theorem Blk.f5 {W : World} {g : Nat} {t : TypeId} {v0 v1 v2 v3 v4 : Value} (h : Blk W g t #[v0, v1, v2, v3, v4]) : g < W.heap.size ∧ W.cell? ⟨g, 0, none⟩ = some v0 ∧ W.frozen? ⟨g, 0, none⟩ = false ∧ W.cell? ⟨g, 1, none⟩ = some v1 ∧ W.frozen? ⟨g, 1, none⟩ = false ∧ W.cell? ⟨g, 2, none⟩ = some v2 ∧ W.frozen? ⟨g, 2, none⟩ = false ∧ W.cell? ⟨g, 3, none⟩ = some v3 ∧ W.frozen? ⟨g, 3, none⟩ = false ∧ W.cell? ⟨g, 4, none⟩ = some v4 ∧ W.frozen? ⟨g, 4, none⟩ = false := ⟨h.lt, h.cell 0, h.frozen 0, h.cell 1, h.frozen 1, h.cell 2, h.frozen 2, h.cell 3, h.frozen 3, h.cell 4, h.frozen 4⟩
theorem Blk.q5 {W : World} {g : Nat} {t : TypeId} {v0 v1 v2 v3 v4 : Value} (h : Blk W g t #[v0, v1, v2, v3, v4]) : g < W.heap.size ∧ W.cell? ⟨g, 0, none⟩ = some v0 ∧ W.cell? ⟨g, 1, none⟩ = some v1 ∧ W.cell? ⟨g, 2, none⟩ = some v2 ∧ W.cell? ⟨g, 3, none⟩ = some v3 ∧ W.cell? ⟨g, 4, none⟩ = some v4 := ⟨h.lt, h.cell 0, h.cell 1, h.cell 2, h.cell 3, h.cell 4⟩
theorem Blk.f6 {W : World} {g : Nat} {t : TypeId} {v0 v1 v2 v3 v4 v5 : Value} (h : Blk W g t #[v0, v1, v2, v3, v4, v5]) : g < W.heap.size ∧ W.cell? ⟨g, 0, none⟩ = some v0 ∧ W.frozen? ⟨g, 0, none⟩ = false ∧ W.cell? ⟨g, 1, none⟩ = some v1 ∧ W.frozen? ⟨g, 1, none⟩ = false ∧ W.cell? ⟨g, 2, none⟩ = some v2 ∧ W.frozen? ⟨g, 2, none⟩ = false ∧ W.cell? ⟨g, 3, none⟩ = some v3 ∧ W.frozen? ⟨g, 3, none⟩ = false ∧ W.cell? ⟨g, 4, none⟩ = some v4 ∧ W.frozen? ⟨g, 4, none⟩ = false ∧ W.cell? ⟨g, 5, none⟩ = some v5 ∧ W.frozen? ⟨g, 5, none⟩ = false := ⟨h.lt, h.cell 0, h.frozen 0, h.cell 1, h.frozen 1, h.cell 2, h.frozen 2, h.cell 3, h.frozen 3, h.cell 4, h.frozen 4, h.cell 5, h.frozen 5⟩
theorem Blk.q6 {W : World} {g : Nat} {t : TypeId} {v0 v1 v2 v3 v4 v5 : Value} (h : Blk W g t #[v0, v1, v2, v3, v4, v5]) : g < W.heap.size ∧ W.cell? ⟨g, 0, none⟩ = some v0 ∧ W.cell? ⟨g, 1, none⟩ = some v1 ∧ W.cell? ⟨g, 2, none⟩ = some v2 ∧ W.cell? ⟨g, 3, none⟩ = some v3 ∧ W.cell? ⟨g, 4, none⟩ = some v4 ∧ W.cell? ⟨g, 5, none⟩ = some v5 := ⟨h.lt, h.cell 0, h.cell 1, h.cell 2, h.cell 3, h.cell 4, h.cell 5⟩
theorem Blk.f7 {W : World} {g : Nat} {t : TypeId} {v0 v1 v2 v3 v4 v5 v6 : Value} (h : Blk W g t #[v0, v1, v2, v3, v4, v5, v6]) : g < W.heap.size ∧ W.cell? ⟨g, 0, none⟩ = some v0 ∧ W.frozen? ⟨g, 0, none⟩ = false ∧ W.cell? ⟨g, 1, none⟩ = some v1 ∧ W.frozen? ⟨g, 1, none⟩ = false ∧ W.cell? ⟨g, 2, none⟩ = some v2 ∧ W.frozen? ⟨g, 2, none⟩ = false ∧ W.cell? ⟨g, 3, none⟩ = some v3 ∧ W.frozen? ⟨g, 3, none⟩ = false ∧ W.cell? ⟨g, 4, none⟩ = some v4 ∧ W.frozen? ⟨g, 4, none⟩ = false ∧ W.cell? ⟨g, 5, none⟩ = some v5 ∧ W.frozen? ⟨g, 5, none⟩ = false ∧ W.cell? ⟨g, 6, none⟩ = some v6 ∧ W.frozen? ⟨g, 6, none⟩ = false := ⟨h.lt, h.cell 0, h.frozen 0, h.cell 1, h.frozen 1, h.cell 2, h.frozen 2, h.cell 3, h.frozen 3, h.cell 4, h.frozen 4, h.cell 5, h.frozen 5, h.cell 6, h.frozen 6⟩
theorem Blk.q7 {W : World} {g : Nat} {t : TypeId} {v0 v1 v2 v3 v4 v5 v6 : Value} (h : Blk W g t #[v0, v1, v2, v3, v4, v5, v6]) : g < W.heap.size ∧ W.cell? ⟨g, 0, none⟩ = some v0 ∧ W.cell? ⟨g, 1, none⟩ = some v1 ∧ W.cell? ⟨g, 2, none⟩ = some v2 ∧ W.cell? ⟨g, 3, none⟩ = some v3 ∧ W.cell? ⟨g, 4, none⟩ = some v4 ∧ W.cell? ⟨g, 5, none⟩ = some v5 ∧ W.cell? ⟨g, 6, none⟩ = some v6 := ⟨h.lt, h.cell 0, h.cell 1, h.cell 2, h.cell 3, h.cell 4, h.cell 5, h.cell 6⟩
theorem Blk.f8 {W : World} {g : Nat} {t : TypeId} {v0 v1 v2 v3 v4 v5 v6 v7 : Value} (h : Blk W g t #[v0, v1, v2, v3, v4, v5, v6, v7]) : g < W.heap.size ∧ W.cell? ⟨g, 0, none⟩ = some v0 ∧ W.frozen? ⟨g, 0, none⟩ = false ∧ W.cell? ⟨g, 1, none⟩ = some v1 ∧ W.frozen? ⟨g, 1, none⟩ = false ∧ W.cell? ⟨g, 2, none⟩ = some v2 ∧ W.frozen? ⟨g, 2, none⟩ = false ∧ W.cell? ⟨g, 3, none⟩ = some v3 ∧ W.frozen? ⟨g, 3, none⟩ = false ∧ W.cell? ⟨g, 4, none⟩ = some v4 ∧ W.frozen? ⟨g, 4, none⟩ = false ∧ W.cell? ⟨g, 5, none⟩ = some v5 ∧ W.frozen? ⟨g, 5, none⟩ = false ∧ W.cell? ⟨g, 6, none⟩ = some v6 ∧ W.frozen? ⟨g, 6, none⟩ = false ∧ W.cell? ⟨g, 7, none⟩ = some v7 ∧ W.frozen? ⟨g, 7, none⟩ = false := ⟨h.lt, h.cell 0, h.frozen 0, h.cell 1, h.frozen 1, h.cell 2, h.frozen 2, h.cell 3, h.frozen 3, h.cell 4, h.frozen 4, h.cell 5, h.frozen 5, h.cell 6, h.frozen 6, h.cell 7, h.frozen 7⟩
theorem Blk.q8 {W : World} {g : Nat} {t : TypeId} {v0 v1 v2 v3 v4 v5 v6 v7 : Value} (h : Blk W g t #[v0, v1, v2, v3, v4, v5, v6, v7]) : g < W.heap.size ∧ W.cell? ⟨g, 0, none⟩ = some v0 ∧ W.cell? ⟨g, 1, none⟩ = some v1 ∧ W.cell? ⟨g, 2, none⟩ = some v2 ∧ W.cell? ⟨g, 3, none⟩ = some v3 ∧ W.cell? ⟨g, 4, none⟩ = some v4 ∧ W.cell? ⟨g, 5, none⟩ = some v5 ∧ W.cell? ⟨g, 6, none⟩ = some v6 ∧ W.cell? ⟨g, 7, none⟩ = some v7 := ⟨h.lt, h.cell 0, h.cell 1, h.cell 2, h.cell 3, h.cell 4, h.cell 5, h.cell 6, h.cell 7⟩
end Go.Proofs.Ytgncjcnobojgbaa

namespace Go.Proofs.Ytgncjcnobojgbaa
open Go.RowKit

structure T7 where (s l o wt on v t : Int)
structure F2 where (b : Bool) (v : Int)
def T7.cs (x : T7) : List Value := [.int .i64 x.s, .int .i64 x.l, .int .i64 x.o, .int .i64 x.wt, .int .i64 x.on, .int .i64 x.v, .int .i64 x.t]
def F2.cs (x : F2) : List Value := [.bool x.b, .int .i64 x.v]
def T7.val (x : T7) : Value := .agg #[.int .i64 x.s, .int .i64 x.l, .int .i64 x.o, .int .i64 x.wt, .int .i64 x.on, .int .i64 x.v, .int .i64 x.t]
def tcells (ts : List T7) : List Value := ts.flatMap T7.cs
def fcells (fs : List F2) : List Value := fs.flatMap F2.cs
def icells (ks : List Int) : List Value := ks.map (Value.int .i64)
instance : Inhabited T7 := ⟨⟨0, 0, 0, 0, 0, 0, 0⟩⟩
instance : Inhabited F2 := ⟨⟨false, 0⟩⟩

theorem tcells_length (ts : List T7) : (tcells ts).length = ts.length * 7 := by
  induction ts with
  | nil => rfl
  | cons x r ih => simp only [tcells, List.flatMap_cons, List.length_append, List.length_cons] at ih ⊢; rw [ih]; simp [T7.cs]; omega
theorem fcells_length (fs : List F2) : (fcells fs).length = fs.length * 2 := by
  induction fs with
  | nil => rfl
  | cons x r ih => simp only [fcells, List.flatMap_cons, List.length_append, List.length_cons] at ih ⊢; rw [ih]; simp [F2.cs]; omega
theorem icells_length (ks : List Int) : (icells ks).length = ks.length := by simp [icells]
theorem tcells_get (ts : List T7) (k : Nat) (hk : k < ts.length) (j : Nat) (hj : j < 7) : (tcells ts)[k * 7 + j]? = ts[k].cs[j]? := by
  induction ts generalizing k with
  | nil => simp at hk
  | cons x r ih =>
    have e : tcells (x :: r) = x.cs ++ tcells r := rfl
    rw [e]
    cases k with
    | zero => rw [List.getElem?_append_left (by simp [T7.cs]; omega)]; simp
    | succ k =>
      have hl : x.cs.length = 7 := rfl
      rw [List.getElem?_append_right (by rw [hl]; omega), hl, show (k + 1) * 7 + j - 7 = k * 7 + j from by omega, ih k (by simpa using hk)]
      simp
theorem fcells_get (fs : List F2) (k : Nat) (hk : k < fs.length) (j : Nat) (hj : j < 2) : (fcells fs)[k * 2 + j]? = fs[k].cs[j]? := by
  induction fs generalizing k with
  | nil => simp at hk
  | cons x r ih =>
    have e : fcells (x :: r) = x.cs ++ fcells r := rfl
    rw [e]
    cases k with
    | zero => rw [List.getElem?_append_left (by simp [F2.cs]; omega)]; simp
    | succ k =>
      have hl : x.cs.length = 2 := rfl
      rw [List.getElem?_append_right (by rw [hl]; omega), hl, show (k + 1) * 2 + j - 2 = k * 2 + j from by omega, ih k (by simpa using hk)]
      simp
theorem icells_get (ks : List Int) (k : Nat) (hk : k < ks.length) : (icells ks)[k]? = some (.int .i64 ks[k]) := by simp [icells, hk]

/-- The cells xs lie behind A, one behind the other. -/
def Row (w : World) (A : Option Addr) (xs : List Value) : Prop :=
  0 < xs.length → ∃ b off : Nat, A = some ⟨b, off, none⟩ ∧ ∀ j u, xs[j]? = some u → w.cell? ⟨b, off + j, none⟩ = some u

section
variable {w w' : World} {A : Option Addr} {xs : List Value}
theorem Row.keep (h : Row w A xs) (hk : ∀ b, b < w.heap.size → w'.heap[b]? = w.heap[b]?) : Row w' A xs := fun hl => by
  obtain ⟨b, off, e, hc⟩ := h hl
  refine ⟨b, off, e, fun j u hu => ?_⟩
  have hb : b < w.heap.size := World.block_lt_of_cell? w _ (hc j u hu)
  exact (World.cell?_of_block (hk b hb)).trans (hc j u hu)
theorem Row.below (h : Row w A xs) (hb : Below w.heap.size w w') : Row w' A xs := h.keep fun b hlt => hb.block b hlt
theorem Row.nil : Row w A [] := fun h => absurd h (by simp)
theorem Row.of_own {base : Nat} {e : TypeId} {size n c : Nat} (h : w.ownsRow base e size (.slice A n c) n xs) : Row w A xs := fun hl => by
  have hn : 0 < n := by
    rcases Nat.eq_zero_or_pos n with h0 | h0
    · subst h0; have := h.1; omega
    · exact h0
  obtain ⟨g, cap, hv, _, hlt⟩ := h.form hn
  have hA : A = some ⟨g, 0, none⟩ := by injection hv
  subst hA
  refine ⟨g, 0, rfl, fun j u hu => ?_⟩
  have := h.cells (g := g) rfl j u hu
  rw [show (⟨g, 0, none⟩ : Addr).add j = ⟨g, 0 + j, none⟩ from by unfold Addr.add; split <;> simp_all] at this
  exact this
theorem Row.t7 {b off : Nat} {ts : List T7} (h : ∀ j u, (tcells ts)[j]? = some u → w.cell? ⟨b, off + j, none⟩ = some u) (k : Nat) (hk : k < ts.length) :
    w.cell? ⟨b, off + k * 7, none⟩ = some (.int .i64 ts[k].s) ∧ w.cell? ⟨b, off + k * 7 + 1, none⟩ = some (.int .i64 ts[k].l) ∧ w.cell? ⟨b, off + k * 7 + 2, none⟩ = some (.int .i64 ts[k].o) ∧
      w.cell? ⟨b, off + k * 7 + 3, none⟩ = some (.int .i64 ts[k].wt) ∧ w.cell? ⟨b, off + k * 7 + 4, none⟩ = some (.int .i64 ts[k].on) ∧ w.cell? ⟨b, off + k * 7 + 5, none⟩ = some (.int .i64 ts[k].v) ∧ w.cell? ⟨b, off + k * 7 + 6, none⟩ = some (.int .i64 ts[k].t) := by
  refine ⟨?_, ?_, ?_, ?_, ?_, ?_, ?_⟩
  · exact h (k * 7 + 0) _ ((tcells_get ts k hk 0 (by omega)).trans rfl)
  · exact h (k * 7 + 1) _ ((tcells_get ts k hk 1 (by omega)).trans rfl)
  · exact h (k * 7 + 2) _ ((tcells_get ts k hk 2 (by omega)).trans rfl)
  · exact h (k * 7 + 3) _ ((tcells_get ts k hk 3 (by omega)).trans rfl)
  · exact h (k * 7 + 4) _ ((tcells_get ts k hk 4 (by omega)).trans rfl)
  · exact h (k * 7 + 5) _ ((tcells_get ts k hk 5 (by omega)).trans rfl)
  · exact h (k * 7 + 6) _ ((tcells_get ts k hk 6 (by omega)).trans rfl)
theorem Row.f2 {b off : Nat} {fs : List F2} (h : ∀ j u, (fcells fs)[j]? = some u → w.cell? ⟨b, off + j, none⟩ = some u) (k : Nat) (hk : k < fs.length) :
    w.cell? ⟨b, off + k * 2, none⟩ = some (.bool fs[k].b) ∧ w.cell? ⟨b, off + k * 2 + 1, none⟩ = some (.int .i64 fs[k].v) := by
  refine ⟨?_, ?_⟩
  · exact h (k * 2 + 0) _ ((fcells_get fs k hk 0 (by omega)).trans rfl)
  · exact h (k * 2 + 1) _ ((fcells_get fs k hk 1 (by omega)).trans rfl)
theorem Row.i1 {b off : Nat} {ks : List Int} (h : ∀ j u, (icells ks)[j]? = some u → w.cell? ⟨b, off + j, none⟩ = some u) (k : Nat) (hk : k < ks.length) :
    w.cell? ⟨b, off + k, none⟩ = some (.int .i64 ks[k]) := h k _ (icells_get ks k hk)
/-- Task k behind a slice that is not empty: where it lies, and its seven cells. -/
theorem Row.ts_at {ts : List T7} (h : Row w A (tcells ts)) {k : Nat} (hk : k < ts.length) : ∃ (b off : Nat) (s l o wt on v t : Int), A = some ⟨b, off, none⟩ ∧ ts.drop k = ⟨s, l, o, wt, on, v, t⟩ :: ts.drop (k + 1) ∧ ts[k]? = some ⟨s, l, o, wt, on, v, t⟩ ∧ b < w.heap.size ∧
    w.cell? ⟨b, off + k * 7, none⟩ = some (.int .i64 s) ∧ w.cell? ⟨b, off + k * 7 + 1, none⟩ = some (.int .i64 l) ∧ w.cell? ⟨b, off + k * 7 + 2, none⟩ = some (.int .i64 o) ∧
      w.cell? ⟨b, off + k * 7 + 3, none⟩ = some (.int .i64 wt) ∧ w.cell? ⟨b, off + k * 7 + 4, none⟩ = some (.int .i64 on) ∧ w.cell? ⟨b, off + k * 7 + 5, none⟩ = some (.int .i64 v) ∧ w.cell? ⟨b, off + k * 7 + 6, none⟩ = some (.int .i64 t) := by
  obtain ⟨b, off, e, hc⟩ := h (by rw [tcells_length]; omega)
  have hz := Row.t7 hc k hk
  exact ⟨b, off, _, _, _, _, _, _, _, e, (List.drop_eq_getElem_cons hk), by simp [hk], World.block_lt_of_cell? w _ hz.1, hz⟩
theorem Row.fs_at {fs : List F2} (h : Row w A (fcells fs)) {k : Nat} (hk : k < fs.length) : ∃ (b off : Nat) (s : Bool) (v : Int), A = some ⟨b, off, none⟩ ∧ fs.drop k = ⟨s, v⟩ :: fs.drop (k + 1) ∧ fs[k]? = some ⟨s, v⟩ ∧ b < w.heap.size ∧
    w.cell? ⟨b, off + k * 2, none⟩ = some (.bool s) ∧ w.cell? ⟨b, off + k * 2 + 1, none⟩ = some (.int .i64 v) := by
  obtain ⟨b, off, e, hc⟩ := h (by rw [fcells_length]; omega)
  have hz := Row.f2 hc k hk
  exact ⟨b, off, _, _, e, (List.drop_eq_getElem_cons hk), by simp [hk], World.block_lt_of_cell? w _ hz.1, hz⟩
theorem Row.ks_at {ks : List Int} (h : Row w A (icells ks)) {k : Nat} (hk : k < ks.length) : ∃ (b off : Nat) (v : Int), A = some ⟨b, off, none⟩ ∧ ks.drop k = v :: ks.drop (k + 1) ∧ ks[k]? = some v ∧ b < w.heap.size ∧
    w.cell? ⟨b, off + k, none⟩ = some (.int .i64 v) := by
  obtain ⟨b, off, e, hc⟩ := h (by rw [icells_length]; omega)
  have hz := Row.i1 hc k hk
  exact ⟨b, off, _, e, (List.drop_eq_getElem_cons hk), by simp [hk], World.block_lt_of_cell? w _ hz, hz⟩
end
end Go.Proofs.Ytgncjcnobojgbaa

namespace Go.Proofs.Ytgncjcnobojgbaa
open Go.RowKit

theorem infoTask : (Try.prog.info? 46).map (fun i => (i.zero, i.size, i.bytes)) = some (some (.agg #[.int .i64 0, .int .i64 0, .int .i64 0, .int .i64 0, .int .i64 0, .int .i64 0, .int .i64 0]), 7, 56) := by kernel_rfl
theorem infoInt : (Try.prog.info? 2).map (fun i => (i.zero, i.size, i.bytes)) = some (some (.int .i64 0), 1, 8) := by kernel_rfl
theorem infoFut : (Try.prog.info? 90).map (fun i => (i.zero, i.size, i.bytes)) = some (some (.agg #[.bool false, .int .i64 0]), 2, 16) := by kernel_rfl

theorem tcells_at (ts : List T7) (j : Nat) : (tcells ts)[j]? = (ts[j / 7]?).bind (fun t => t.cs[j % 7]?) := by
  by_cases h : j / 7 < ts.length
  · have := tcells_get ts (j / 7) h (j % 7) (by omega)
    rw [show j / 7 * 7 + j % 7 = j from by omega] at this
    rw [this]; simp [h]
  · rw [List.getElem?_eq_none (by rw [tcells_length]; omega), List.getElem?_eq_none (by omega)]; rfl
theorem fcells_at (fs : List F2) (j : Nat) : (fcells fs)[j]? = (fs[j / 2]?).bind (fun t => t.cs[j % 2]?) := by
  by_cases h : j / 2 < fs.length
  · have := fcells_get fs (j / 2) h (j % 2) (by omega)
    rw [show j / 2 * 2 + j % 2 = j from by omega] at this
    rw [this]; simp [h]
  · rw [List.getElem?_eq_none (by rw [fcells_length]; omega), List.getElem?_eq_none (by omega)]; rfl
theorem tcells_put (us : List T7) (k : Nat) (t : T7) :
    (((((((tcells us).set (k * 7) (.int .i64 t.s)).set (k * 7 + 1) (.int .i64 t.l)).set (k * 7 + 2) (.int .i64 t.o)).set (k * 7 + 3) (.int .i64 t.wt)).set (k * 7 + 4) (.int .i64 t.on)).set (k * 7 + 5) (.int .i64 t.v)).set (k * 7 + 6) (.int .i64 t.t) = tcells (us.set k t) := by
  apply List.ext_getElem?
  intro j
  rw [tcells_at (us.set k t)]
  simp only [List.getElem?_set, List.length_set, tcells_length]
  by_cases hk : k = j / 7
  · subst hk
    by_cases hl : j / 7 < us.length
    · have h7 : j % 7 = 0 ∨ j % 7 = 1 ∨ j % 7 = 2 ∨ j % 7 = 3 ∨ j % 7 = 4 ∨ j % 7 = 5 ∨ j % 7 = 6 := by omega
      have hj : j < us.length * 7 := by omega
      rcases h7 with h | h | h | h | h | h | h
      all_goals rw [h]
      all_goals simp only [hl, if_true, Option.bind_some, T7.cs]
      · rw [if_neg (by omega), if_neg (by omega), if_neg (by omega), if_neg (by omega), if_neg (by omega), if_neg (by omega), if_pos (by omega), if_pos (by omega)]; rfl
      · rw [if_neg (by omega), if_neg (by omega), if_neg (by omega), if_neg (by omega), if_neg (by omega), if_pos (by omega), if_pos (by omega)]; rfl
      · rw [if_neg (by omega), if_neg (by omega), if_neg (by omega), if_neg (by omega), if_pos (by omega), if_pos (by omega)]; rfl
      · rw [if_neg (by omega), if_neg (by omega), if_neg (by omega), if_pos (by omega), if_pos (by omega)]; rfl
      · rw [if_neg (by omega), if_neg (by omega), if_pos (by omega), if_pos (by omega)]; rfl
      · rw [if_neg (by omega), if_pos (by omega), if_pos (by omega)]; rfl
      · rw [if_pos (by omega), if_pos (by omega)]; rfl
    · simp only [hl, if_false, if_true, Option.bind_none]
      repeat (split; · first | omega | (split <;> first | omega | rfl))
      rw [List.getElem?_eq_none (by rw [tcells_length]; omega)]
  · rw [if_neg hk, if_neg (by omega), if_neg (by omega), if_neg (by omega), if_neg (by omega), if_neg (by omega), if_neg (by omega), if_neg (by omega), tcells_at]
theorem fcells_put (us : List F2) (k : Nat) (t : F2) : ((fcells us).set (k * 2) (.bool t.b)).set (k * 2 + 1) (.int .i64 t.v) = fcells (us.set k t) := by
  apply List.ext_getElem?
  intro j
  rw [fcells_at (us.set k t)]
  simp only [List.getElem?_set, List.length_set, fcells_length]
  by_cases hk : k = j / 2
  · subst hk
    by_cases hl : j / 2 < us.length
    · have h7 : j % 2 = 0 ∨ j % 2 = 1 := by omega
      have hj : j < us.length * 2 := by omega
      rcases h7 with h | h
      all_goals rw [h]
      all_goals simp only [hl, if_true, Option.bind_some, F2.cs]
      · rw [if_neg (by omega), if_pos (by omega), if_pos (by omega)]; rfl
      · rw [if_pos (by omega), if_pos (by omega)]; rfl
    · simp only [hl, if_false, if_true, Option.bind_none]
      repeat (split; · first | omega | (split <;> first | omega | rfl))
      rw [List.getElem?_eq_none (by rw [fcells_length]; omega)]
  · rw [if_neg hk, if_neg (by omega), if_neg (by omega), fcells_at]
theorem icells_put (us : List Int) (k : Nat) (v : Int) : (icells us).set k (.int .i64 v) = icells (us.set k v) := by simp [icells, List.map_set]

theorem tmade (n : Nat) : (madeCells (Value.agg #[.int .i64 0, .int .i64 0, .int .i64 0, .int .i64 0, .int .i64 0, .int .i64 0, .int .i64 0]).cells (n * 7)).toList = tcells (List.replicate n ⟨0, 0, 0, 0, 0, 0, 0⟩) := by
  apply List.ext_getElem?
  intro j
  rw [tcells_at]
  have h7 : j % 7 = 0 ∨ j % 7 = 1 ∨ j % 7 = 2 ∨ j % 7 = 3 ∨ j % 7 = 4 ∨ j % 7 = 5 ∨ j % 7 = 6 := by omega
  by_cases hj : j < n * 7
  · have hk : j / 7 < n := by omega
    rcases h7 with h | h | h | h | h | h | h
    all_goals simp [madeCells, hj, hk, h, T7.cs, Value.cells]
  · have hk : ¬ j / 7 < n := by omega
    simp [madeCells, hj, hk]
theorem fmade (n : Nat) : (madeCells (Value.agg #[.bool false, .int .i64 0]).cells (n * 2)).toList = fcells (List.replicate n ⟨false, 0⟩) := by
  apply List.ext_getElem?
  intro j
  rw [fcells_at]
  have h7 : j % 2 = 0 ∨ j % 2 = 1 := by omega
  by_cases hj : j < n * 2
  · have hk : j / 2 < n := by omega
    rcases h7 with h | h
    all_goals simp [madeCells, hj, hk, h, F2.cs, Value.cells]
  · have hk : ¬ j / 2 < n := by omega
    simp [madeCells, hj, hk]
theorem imade (n : Nat) : (madeCells (Value.int .i64 0).cells (n * 1)).toList = icells (List.replicate n 0) := by
  rw [Nat.mul_one]
  show (madeCells #[.int .i64 0] n).toList = _
  rw [toList_madeCells_one]; simp [icells]

section
variable {w : World} {base : Nat} {e : TypeId} {g n c : Nat}
theorem Own.t7 {us : List T7} (h : w.ownsRow base e 7 (.slice (some ⟨g, 0, none⟩) n c) n (tcells us)) {k : Nat} (hk : k < us.length) : ∃ s l o wt on v t : Int, us[k]? = some ⟨s, l, o, wt, on, v, t⟩ ∧
    w.cell? ⟨g, k * 7, none⟩ = some (.int .i64 s) ∧ w.cell? ⟨g, k * 7 + 1, none⟩ = some (.int .i64 l) ∧ w.cell? ⟨g, k * 7 + 2, none⟩ = some (.int .i64 o) ∧ w.cell? ⟨g, k * 7 + 3, none⟩ = some (.int .i64 wt) ∧
      w.cell? ⟨g, k * 7 + 4, none⟩ = some (.int .i64 on) ∧ w.cell? ⟨g, k * 7 + 5, none⟩ = some (.int .i64 v) ∧ w.cell? ⟨g, k * 7 + 6, none⟩ = some (.int .i64 t) := by
  obtain ⟨b, off, s, l, o, wt, on, v, t, e1, _, hu, _, z⟩ := (Row.of_own h).ts_at hk
  injection e1 with e1; injection e1 with e1 e2; subst e1 e2
  simp only [Nat.zero_add] at z
  exact ⟨s, l, o, wt, on, v, t, hu, z⟩
theorem Own.f2 {us : List F2} (h : w.ownsRow base e 2 (.slice (some ⟨g, 0, none⟩) n c) n (fcells us)) {k : Nat} (hk : k < us.length) : ∃ (s : Bool) (v : Int), us[k]? = some ⟨s, v⟩ ∧
    w.cell? ⟨g, k * 2, none⟩ = some (.bool s) ∧ w.cell? ⟨g, k * 2 + 1, none⟩ = some (.int .i64 v) := by
  obtain ⟨b, off, s, v, e1, _, hu, _, z⟩ := (Row.of_own h).fs_at hk
  injection e1 with e1; injection e1 with e1 e2; subst e1 e2
  simp only [Nat.zero_add] at z
  exact ⟨s, v, hu, z⟩
theorem Own.i1 {us : List Int} (h : w.ownsRow base e 1 (.slice (some ⟨g, 0, none⟩) n c) n (icells us)) {k : Nat} (hk : k < us.length) : ∃ v : Int, us[k]? = some v ∧ w.cell? ⟨g, k, none⟩ = some (.int .i64 v) := by
  obtain ⟨b, off, v, e1, _, hu, _, z⟩ := (Row.of_own h).ks_at hk
  injection e1 with e1; injection e1 with e1 e2; subst e1 e2
  simp only [Nat.zero_add] at z
  exact ⟨v, hu, z⟩
theorem Own.fz {size : Nat} {xs : List Value} (h : w.ownsRow base e size (.slice (some ⟨g, 0, none⟩) n c) n xs) : ∀ j, w.frozen? ⟨g, j, none⟩ = false := fun j => h.frozenAt j
theorem Own.put7 {us : List T7} (h : w.ownsRow base e 7 (.slice (some ⟨g, 0, none⟩) n c) n (tcells us)) (k : Nat) (s l o wt on v t : Int) :
    (((((((w.setCell ⟨g, k * 7, none⟩ (.int .i64 s)).setCell ⟨g, k * 7 + 1, none⟩ (.int .i64 l)).setCell ⟨g, k * 7 + 2, none⟩ (.int .i64 o)).setCell ⟨g, k * 7 + 3, none⟩ (.int .i64 wt)).setCell ⟨g, k * 7 + 4, none⟩ (.int .i64 on)).setCell ⟨g, k * 7 + 5, none⟩ (.int .i64 v)).setCell ⟨g, k * 7 + 6, none⟩ (.int .i64 t)).ownsRow base e 7 (.slice (some ⟨g, 0, none⟩) n c) n (tcells (us.set k ⟨s, l, o, wt, on, v, t⟩)) := by
  rw [← tcells_put]
  exact (((((((h.stored (k * 7) _).1.stored (k * 7 + 1) _).1.stored (k * 7 + 2) _).1.stored (k * 7 + 3) _).1.stored (k * 7 + 4) _).1.stored (k * 7 + 5) _).1.stored (k * 7 + 6) _).1
theorem Own.put2 {us : List F2} (h : w.ownsRow base e 2 (.slice (some ⟨g, 0, none⟩) n c) n (fcells us)) (k : Nat) (s : Bool) (v : Int) :
    ((w.setCell ⟨g, k * 2, none⟩ (.bool s)).setCell ⟨g, k * 2 + 1, none⟩ (.int .i64 v)).ownsRow base e 2 (.slice (some ⟨g, 0, none⟩) n c) n (fcells (us.set k ⟨s, v⟩)) := by
  rw [← fcells_put]
  exact ((h.stored (k * 2) _).1.stored (k * 2 + 1) _).1
theorem Own.put1 {us : List Int} (h : w.ownsRow base e 1 (.slice (some ⟨g, 0, none⟩) n c) n (icells us)) (k : Nat) (v : Int) :
    (w.setCell ⟨g, k, none⟩ (.int .i64 v)).ownsRow base e 1 (.slice (some ⟨g, 0, none⟩) n c) n (icells (us.set k v)) := by
  rw [← icells_put]
  exact (h.stored k _).1
theorem Own.below {w' : World} {size : Nat} {v : Value} {xs : List Value} (h : w.ownsRow base e size v n xs) (hb : Below w.heap.size w w') : w'.ownsRow base e size v n xs :=
  h.kept (only_of_below hb none) (by
    rcases h' : v.ownBlock with _ | g
    · exact .inl rfl
    · exact .inr (by simp))
theorem Own.lower {b2 size : Nat} {v : Value} {xs : List Value} (h : w.ownsRow base e size v n xs) (hb : b2 ≤ base) : w.ownsRow b2 e size v n xs := by
  refine ⟨h.1, ?_⟩
  rcases h.2 with h2 | ⟨g, cap, cur, h3, h4, h5⟩
  · exact .inl h2
  · exact .inr ⟨g, cap, cur, h3, by omega, h5⟩
end
/-- A row of the call's own, between two marks: a store elsewhere leaves it as it is. -/
def OwnR (w : World) (lo hi : Nat) (e : TypeId) (size : Nat) (v : Value) (n : Nat) (xs : List Value) : Prop := w.ownsRow lo e size v n xs ∧ ∀ k, v.ownBlock = some k → k < hi
section
variable {w w' : World} {lo hi : Nat} {e : TypeId} {size n c : Nat} {v : Value} {xs : List Value} {A : Option Addr}
theorem OwnR.of (h : w.ownsRow lo e size v n xs) (hh : w.heap.size ≤ hi) : OwnR w lo hi e size v n xs := ⟨h, fun k hk => Nat.lt_of_lt_of_le (h.lt k hk).2 hh⟩
theorem OwnR.row (h : OwnR w lo hi e size (.slice A n c) n xs) : Row w A xs := Row.of_own h.1
theorem OwnR.below (h : OwnR w lo hi e size v n xs) (hb : Below w.heap.size w w') : OwnR w' lo hi e size v n xs := ⟨Own.below h.1 hb, h.2⟩
theorem OwnR.alloc (h : OwnR w lo hi e size v n xs) (o : Obj) : OwnR (w.alloc o) lo hi e size v n xs := ⟨h.1.alloc o, h.2⟩
theorem OwnR.wide {l2 h2 : Nat} (h : OwnR w lo hi e size v n xs) (hl : l2 ≤ lo) (hh : hi ≤ h2) : OwnR w l2 h2 e size v n xs := ⟨Own.lower h.1 hl, fun k hk => by have := h.2 k hk; omega⟩
theorem OwnR.store (h : OwnR w lo hi e size v n xs) {p : Addr} (hp : p.block < lo ∨ hi ≤ p.block) (u : Value) : OwnR (w.setCell p u) lo hi e size v n xs := by
  refine ⟨h.1.kept (row := some p.block) ⟨rfl, rfl, rfl, by simp [World.setCell], fun i hi hne => Below.heap_setCell w p u i (by intro e; exact hne (by rw [e]))⟩ ?_, h.2⟩
  rcases hv : v.ownBlock with _ | g
  · exact .inl rfl
  · refine .inr fun he => ?_
    injection he with he
    have h1 := (h.1.lt g hv).1
    have h2 := h.2 g hv
    omega
theorem OwnR.drew (h : OwnR w lo hi e size v n xs) : OwnR w.drew lo hi e size v n xs := h
end

/-- A list that agrees with ts as far as k, and then at k: it agrees as far as k + 1. -/
theorem take_set {α : Type} {us ts : List α} {k : Nat} {x : α} (hl : us.length = ts.length) (h : us.take k = ts.take k) (hx : ts[k]? = some x) : (us.set k x).take (k + 1) = ts.take (k + 1) := by
  have hk : k < ts.length := by
    rcases Nat.lt_or_ge k ts.length with h1 | h1
    · exact h1
    · rw [List.getElem?_eq_none h1] at hx; cases hx
  apply List.ext_getElem?
  intro j
  simp only [List.getElem?_take]
  by_cases hj : j < k + 1
  · simp only [hj, if_true]
    by_cases he : k = j
    · subst he; rw [List.getElem?_set_self (by omega), hx]
    · rw [List.getElem?_set_ne he]
      have := congrArg (·[j]?) h
      simp only [List.getElem?_take] at this
      have hjk : j < k := by omega
      simpa [hjk] using this
  · simp [hj]
end Go.Proofs.Ytgncjcnobojgbaa

namespace Go.Proofs.Ytgncjcnobojgbaa
open Go.RowKit

def btw (n l h : Int) : Bool := decide (l ≤ n) && decide (n ≤ h)
theorem btw_t {n l h : Int} (a : l ≤ n) (b : n ≤ h) : btw n l h = true := by simp [btw, a, b]
theorem btw_f1 {n l h : Int} (a : ¬ l ≤ n) : btw n l h = false := by simp [btw, a]
theorem btw_f2 {n l h : Int} (b : ¬ n ≤ h) : btw n l h = false := by simp [btw, b]
theorem ret_bool {a b : Bool} (h : a = b) : Ending.returned (.bool a) = .returned (.bool b) := by rw [h]

set_option maxHeartbeats 400000 in
theorem between_any (n l h : Int) (w : World) :
    Calls Try.prog 104 #[.int .i64 n, .int .i64 l, .int .i64 h] w fun e w' => e = .returned (.bool (btw n l h)) ∧ w = w' := by
  by_cases a : l ≤ n
  · by_cases b : n ≤ h
    · rw [btw_t a b]
      go_enter Try.func104, Try.ntmps104
      go_wp2
      go_ret
      exact ⟨rfl, rfl⟩
    · rw [btw_f2 b]
      go_enter Try.func104, Try.ntmps104
      go_wp2
      go_ret
      exact ⟨rfl, rfl⟩
  · rw [btw_f1 a]
    go_enter Try.func104, Try.ntmps104
    go_wp2
    go_ret
    exact ⟨rfl, rfl⟩

set_option maxHeartbeats 400000 in
theorem l1In_any (n l h : Int) (w : World) :
    Calls Try.prog 59 #[.int .i64 n, .int .i64 l, .int .i64 h] w fun e w' => e = .returned (.bool (btw n l h)) ∧ w = w' := by
  by_cases a : l ≤ n
  · by_cases b : n ≤ h
    · rw [btw_t a b]
      go_enter Try.func59, Try.ntmps59
      go_wp2
      go_ret
      exact ⟨rfl, rfl⟩
    · rw [btw_f2 b]
      go_enter Try.func59, Try.ntmps59
      go_wp2
      go_ret
      exact ⟨rfl, rfl⟩
  · rw [btw_f1 a]
    go_enter Try.func59, Try.ntmps59
    go_wp2
    go_ret
    exact ⟨rfl, rfl⟩

def planB (a b c d e : Int) : Bool := btw a 1 8 && (btw b 1 30 && (btw c 1 4 && (btw d 0 4 && btw e 0 4)))

set_option maxHeartbeats 1000000 in
theorem right_any (a b c d e : Int) (w : World) :
    Calls Try.prog 47 #[.agg #[.int .i64 a, .int .i64 b, .int .i64 c, .int .i64 d, .int .i64 e]] w fun r w' => r = .returned (.bool (planB a b c d e)) ∧ Below w.heap.size w w' := by
  go_enter Try.func47, Try.ntmps47
  go_wp2_with (go_at_call 104; refine (between_any _ _ _ _).mono ?_; rintro e w' ⟨rfl, rfl⟩)
  all_goals go_ret
  all_goals exact ⟨ret_bool (by simp_all [planB]), (Below.refl _ _).alloc (Nat.le_refl _) _⟩

set_option maxHeartbeats 1000000 in
theorem sPlanOk_any (a b c d e : Int) (w : World) :
    Calls Try.prog 58 #[.agg #[.int .i64 a, .int .i64 b, .int .i64 c, .int .i64 d, .int .i64 e]] w fun r w' => r = .returned (.bool (planB a b c d e)) ∧ Below w.heap.size w w' := by
  go_enter Try.func58, Try.ntmps58
  go_wp2_with (go_at_call 59; refine (l1In_any _ _ _ _).mono ?_; rintro e w' ⟨rfl, rfl⟩)
  all_goals go_ret
  all_goals exact ⟨ret_bool (by simp_all [planB]), (Below.refl _ _).alloc (Nat.le_refl _) _⟩

set_option maxHeartbeats 1000000 in
theorem toPlan_any (a b c d e : Int) (w : World) :
    Calls Try.prog 32 #[.agg #[.int .i64 a, .int .i64 b, .int .i64 c, .int .i64 d, .int .i64 e]] w fun r w' => r = .returned (.agg #[.int .i64 a, .int .i64 b, .int .i64 c, .int .i64 d, .int .i64 e]) ∧ Below w.heap.size w w' := by
  go_enter Try.func32, Try.ntmps32
  go_wp2
  exact bodyPost_ret (v := .agg #[.int .i64 a, .int .i64 b, .int .i64 c, .int .i64 d, .int .i64 e]) (by simp [results, Try.results32, go_sem]) rfl ⟨rfl, (((Below.refl _ _).alloc (Nat.le_refl _) _).alloc (by simp) _).alloc (by simp; omega) _⟩

def workB (a b c d e n : Int) : Bool := planB a b c d e && btw n 0 (a - 1)
def levelB (a b c d e n : Int) : Bool := planB a b c d e && btw n 0 (c - 1)
theorem planB_a {a b c d e : Int} (h : planB a b c d e = true) : 1 ≤ a ∧ a ≤ 8 := by
  simp [planB, btw] at h; omega
theorem planB_c {a b c d e : Int} (h : planB a b c d e = true) : 1 ≤ c ∧ c ≤ 4 := by
  simp [planB, btw] at h; omega

set_option maxHeartbeats 1000000 in
theorem sWorkerIn_any (a b c d e n : Int) (w : World) :
    Calls Try.prog 128 #[.agg #[.int .i64 a, .int .i64 b, .int .i64 c, .int .i64 d, .int .i64 e], .int .i64 n] w fun r w' => r = .returned (.bool (workB a b c d e n)) ∧ Below w.heap.size w w' := by
  by_cases hp : planB a b c d e = true
  · have hbd := planB_a hp
    go_enter Try.func128, Try.ntmps128
    go_wp2_with first | (go_at_call 58; refine (sPlanOk_any _ _ _ _ _ _).mono ?_; rintro r w' ⟨rfl, hb1⟩; obtain ⟨hc, hf⟩ := bcell hb1) | (go_at_call 59; refine (l1In_any _ _ _ _).mono ?_; rintro e w' ⟨rfl, rfl⟩)
    go_ret
    exact ⟨ret_bool (by simp [workB, hp]), ((Below.refl _ _).alloc (Nat.le_refl _) _).trans (hb1.mono (by simp))⟩
  · have hp' : planB a b c d e = false := by simpa using hp
    clear hp
    go_enter Try.func128, Try.ntmps128
    go_wp2_with first | (go_at_call 58; refine (sPlanOk_any _ _ _ _ _ _).mono ?_; rintro r w' ⟨rfl, hb1⟩; obtain ⟨hc, hf⟩ := bcell hb1)
    go_ret
    exact ⟨ret_bool (by simp [workB, hp']), ((Below.refl _ _).alloc (Nat.le_refl _) _).trans (hb1.mono (by simp))⟩

set_option maxHeartbeats 1000000 in
theorem sLevelIn_any (a b c d e n : Int) (w : World) :
    Calls Try.prog 90 #[.agg #[.int .i64 a, .int .i64 b, .int .i64 c, .int .i64 d, .int .i64 e], .int .i64 n] w fun r w' => r = .returned (.bool (levelB a b c d e n)) ∧ Below w.heap.size w w' := by
  by_cases hp : planB a b c d e = true
  · have hbd := planB_c hp
    go_enter Try.func90, Try.ntmps90
    go_wp2_with first | (go_at_call 58; refine (sPlanOk_any _ _ _ _ _ _).mono ?_; rintro r w' ⟨rfl, hb1⟩; obtain ⟨hc, hf⟩ := bcell hb1) | (go_at_call 59; refine (l1In_any _ _ _ _).mono ?_; rintro e w' ⟨rfl, rfl⟩)
    go_ret
    exact ⟨ret_bool (by simp [levelB, hp]), ((Below.refl _ _).alloc (Nat.le_refl _) _).trans (hb1.mono (by simp))⟩
  · have hp' : planB a b c d e = false := by simpa using hp
    clear hp
    go_enter Try.func90, Try.ntmps90
    go_wp2_with first | (go_at_call 58; refine (sPlanOk_any _ _ _ _ _ _).mono ?_; rintro r w' ⟨rfl, hb1⟩; obtain ⟨hc, hf⟩ := bcell hb1)
    go_ret
    exact ⟨ret_bool (by simp [levelB, hp']), ((Below.refl _ _).alloc (Nat.le_refl _) _).trans (hb1.mono (by simp))⟩

set_option maxHeartbeats 1000000 in
theorem hasWorker_any (a b c d e n : Int) (w : World) (h1 : 1 ≤ a) (h2 : a ≤ 30) :
    Calls Try.prog 131 #[.agg #[.int .i64 a, .int .i64 b, .int .i64 c, .int .i64 d, .int .i64 e], .int .i64 n] w fun r w' => r = .returned (.bool (btw n 0 (a - 1))) ∧ Below w.heap.size w w' := by
  go_enter Try.func131, Try.ntmps131
  go_wp2_with (go_at_call 104; refine (between_any _ _ _ _).mono ?_; rintro e w' ⟨rfl, rfl⟩)
  go_ret
  exact ⟨rfl, (Below.refl _ _).alloc (Nat.le_refl _) _⟩

set_option maxHeartbeats 1000000 in
theorem hasLevel_any (a b c d e n : Int) (w : World) (h1 : 1 ≤ c) (h2 : c ≤ 30) :
    Calls Try.prog 132 #[.agg #[.int .i64 a, .int .i64 b, .int .i64 c, .int .i64 d, .int .i64 e], .int .i64 n] w fun r w' => r = .returned (.bool (btw n 0 (c - 1))) ∧ Below w.heap.size w w' := by
  go_enter Try.func132, Try.ntmps132
  go_wp2_with (go_at_call 104; refine (between_any _ _ _ _).mono ?_; rintro e w' ⟨rfl, rfl⟩)
  go_ret
  exact ⟨rfl, (Below.refl _ _).alloc (Nat.le_refl _) _⟩

end Go.Proofs.Ytgncjcnobojgbaa

namespace Go.Proofs.Ytgncjcnobojgbaa
open Go.RowKit

/-- A world that has all that was in W0, as it was. -/
def KeptW (W0 : World) : Type := { w : World // Below W0.heap.size W0 w }
def KeptW.w {W0 : World} (x : KeptW W0) : World := x.1
theorem KeptW.below {W0 : World} (x : KeptW W0) : Below W0.heap.size W0 x.w := x.2
def KeptW.mk' {W0 w : World} (h : Below W0.heap.size W0 w) : KeptW W0 := ⟨w, h⟩
theorem KeptW.mk'_w {W0 w : World} (h : Below W0.heap.size W0 w) : (KeptW.mk' h).w = w := rfl
instance (W0 : World) : Nonempty (KeptW W0) := ⟨KeptW.mk' (Below.refl _ _)⟩
theorem KeptW.cell {W0 : World} {b o : Nat} {u : Value} (h : W0.cell? ⟨b, o, none⟩ = some u) (x : KeptW W0) : x.w.cell? ⟨b, o, none⟩ = some u :=
  (x.below.cell (p := ⟨b, o, none⟩) (World.block_lt_of_cell? W0 _ h)).trans h

theorem kept_call {P : Program} {f : FuncId} {args : Array Value} {W0 : World} {x : KeptW W0} {v : Value}
    (h : Calls P f args x.w fun e w' => e = .returned v ∧ Below x.w.heap.size x.w w') : Calls P f args x.w fun e w'' => e = .returned v ∧ ∃ y : KeptW W0, w'' = y.w :=
  h.mono fun _ _ ⟨he, hb⟩ => ⟨he, KeptW.mk' (x.below.trans (hb.mono x.below.size)), rfl⟩
theorem kept_same {P : Program} {f : FuncId} {args : Array Value} {W0 : World} {x : KeptW W0} {v : Value}
    (h : Calls P f args x.w fun e w' => e = .returned v ∧ x.w = w') : Calls P f args x.w fun e w'' => e = .returned v ∧ ∃ y : KeptW W0, w'' = y.w :=
  h.mono fun _ _ ⟨he, hb⟩ => ⟨he, x, hb.symm⟩

theorem kept_start {R : World → Prop} {W0 : World} (h : ∀ x : KeptW W0, R x.w) : R W0 := h (KeptW.mk' (Below.refl _ _))
theorem region_kept {P : Program} {id : Nat} {Q : Exit → Act → World → Prop} {a : Act} {W0 : World} {x : KeptW W0} {l : List Oper} (hm : P.follows .mixedOrders = true) (hB : Region.lexB .any l.toArray = true)
    (h : wpQuiet P l.toArray (fun w' => ∃ x : KeptW W0, w' = x.w) (fun a' => ∀ w', (∃ x : KeptW W0, w' = x.w) → Q .normal a' w') l a) : (Code.region id l.toArray true).wp P Q a x.w :=
  wp_region_quiet (C := fun w' => ∃ x : KeptW W0, w' = x.w) hm hB ⟨KeptW.mk' x.below.drew, rfl⟩ (by simpa using h)
end Go.Proofs.Ytgncjcnobojgbaa

namespace Go.Proofs.Ytgncjcnobojgbaa
open Go.RowKit

def cnt (b d e wt : Int) : Int := if wt = 1 then b else if wt = 2 then d else if wt = 3 then e else 0
def ownB (a s o : Int) : Bool := if s = 2 then btw o 0 (a - 1) else o == -1
def waitB (b d e s wt on : Int) : Bool := if s = 3 then btw on 0 (cnt b d e wt - 1) else (wt == 0 && on == 0)
def taskB (a b c d e s l o wt on v t : Int) : Bool := planB a b c d e && (btw s 1 5 && (btw l 0 (c - 1) && (ownB a s o && (waitB b d e s wt on && (btw v 0 9999 && btw t 0 1000000)))))
def openB (s : Int) : Bool := btw s 1 3

theorem planB_all {a b c d e : Int} (h : planB a b c d e = true) : (1 ≤ a ∧ a ≤ 8) ∧ (1 ≤ b ∧ b ≤ 30) ∧ (1 ≤ c ∧ c ≤ 4) ∧ (0 ≤ d ∧ d ≤ 4) ∧ (0 ≤ e ∧ e ≤ 4) := by
  simp [planB, btw] at h; omega
theorem cnt_in {a b c d e : Int} (h : planB a b c d e = true) (wt : Int) : 0 ≤ cnt b d e wt ∧ cnt b d e wt ≤ 30 := by
  have := planB_all h
  unfold cnt; split <;> (try split) <;> (try split) <;> omega

theorem right_v (a b c d e : Int) (v : Bool) (h : planB a b c d e = v) (w : World) :
    Calls Try.prog 47 #[.agg #[.int .i64 a, .int .i64 b, .int .i64 c, .int .i64 d, .int .i64 e]] w fun r w' => r = .returned (.bool v) ∧ Below w.heap.size w w' := h ▸ right_any a b c d e w

/-- What a region's calls leave of the world in which it began. -/
theorem keep0 (W0 : World) : Below W0.heap.size W0 W0.drew ∧ ∀ b o, b < W0.heap.size → W0.drew.cell? ⟨b, o, none⟩ = W0.cell? ⟨b, o, none⟩ :=
  ⟨(Below.refl _ _).drew, fun _ _ _ => rfl⟩
theorem keepS {W0 w w' : World} (h : Below W0.heap.size W0 w ∧ ∀ b o, b < W0.heap.size → w.cell? ⟨b, o, none⟩ = W0.cell? ⟨b, o, none⟩) (k : Below w.heap.size w w') :
    Below W0.heap.size W0 w' ∧ ∀ b o, b < W0.heap.size → w'.cell? ⟨b, o, none⟩ = W0.cell? ⟨b, o, none⟩ :=
  have hb := h.1.trans (k.mono h.1.size)
  ⟨hb, (bcell hb).1⟩
theorem keepEnd {B : Nat} {w W0 w' : World} (hb : Below B w W0 ∧ B ≤ W0.heap.size) (h : Below W0.heap.size W0 w' ∧ ∀ b o, b < W0.heap.size → w'.cell? ⟨b, o, none⟩ = W0.cell? ⟨b, o, none⟩) : Below B w w' :=
  hb.1.trans (h.1.mono hb.2)

set_option maxHeartbeats 1000000 in
theorem countFor_any (a b c d e wt : Int) (w : World) :
    Calls Try.prog 172 #[.agg #[.int .i64 a, .int .i64 b, .int .i64 c, .int .i64 d, .int .i64 e], .int .i64 wt] w fun r w' => r = .returned (.int .i64 (cnt b d e wt)) ∧ Below w.heap.size w w' := by
  go_enter Try.func172, Try.ntmps172
  go_wp2_with fail
  all_goals go_ret
  all_goals refine ⟨?_, (Below.refl _ _).alloc (Nat.le_refl _) _⟩
  all_goals simp_all [cnt]

set_option maxHeartbeats 1000000 in
theorem state_any (s l o wt on v t : Int) (w : World) :
    Calls Try.prog 168 #[.agg #[.int .i64 s, .int .i64 l, .int .i64 o, .int .i64 wt, .int .i64 on, .int .i64 v, .int .i64 t]] w fun r w' => r = .returned (.int .i64 s) ∧ Below w.heap.size w w' := by
  go_enter Try.func168, Try.ntmps168
  go_wp2_with fail
  go_ret
  exact ⟨rfl, (Below.refl _ _).alloc (Nat.le_refl _) _⟩

set_option maxHeartbeats 1000000 in
theorem known_any (s : Int) (w : World) :
    Calls Try.prog 169 #[.int .i64 s] w fun r w' => r = .returned (.bool (btw s 1 5)) ∧ Below w.heap.size w w' := by
  go_enter Try.func169, Try.ntmps169
  go_wp2_with fail
  go_call (between_any _ _ _ _) as r w1 ⟨rfl, rfl⟩
  go_wp2_with fail
  go_ret
  exact ⟨rfl, Below.refl _ _⟩

set_option maxHeartbeats 1000000 in
theorem ownerFits_any (a b c d e s o : Int) (w : World) (hp : planB a b c d e = true) :
    Calls Try.prog 170 #[.int .i64 s, .agg #[.int .i64 a, .int .i64 b, .int .i64 c, .int .i64 d, .int .i64 e], .int .i64 o] w fun r w' => r = .returned (.bool (ownB a s o)) ∧ Below w.heap.size w w' := by
  have hbd := planB_all hp
  by_cases h2 : s = 2
  · subst h2
    go_enter Try.func170, Try.ntmps170
    go_wp2_with fail
    go_call (hasWorker_any a b c d e o _ (by omega) (by omega)) as r w1 ⟨rfl, hb1⟩
    go_wp2_with fail
    go_ret
    exact ⟨rfl, ((Below.refl _ _).alloc (Nat.le_refl _) _).trans (hb1.mono (by simp))⟩
  · go_enter Try.func170, Try.ntmps170
    go_wp2_with fail
    go_ret
    exact ⟨ret_bool (by simp [ownB, h2]), (Below.refl _ _).alloc (Nat.le_refl _) _⟩

set_option maxHeartbeats 1000000 in
theorem waitFits_any (a b c d e s wt on : Int) (w : World) (hp : planB a b c d e = true) :
    Calls Try.prog 171 #[.int .i64 s, .agg #[.int .i64 a, .int .i64 b, .int .i64 c, .int .i64 d, .int .i64 e], .int .i64 wt, .int .i64 on] w fun r w' => r = .returned (.bool (waitB b d e s wt on)) ∧ Below w.heap.size w w' := by
  have hbd := cnt_in hp wt
  by_cases h2 : s = 3
  · subst h2
    go_enter Try.func171, Try.ntmps171
    go_wp2_with fail
    go_call (countFor_any a b c d e wt _) as r w1 ⟨rfl, hb1⟩
    go_wp2_with fail
    go_call (between_any _ _ _ _) as r w2 ⟨rfl, rfl⟩
    go_wp2_with fail
    go_ret
    exact ⟨ret_bool (by simp [waitB]), ((Below.refl _ _).alloc (Nat.le_refl _) _).trans (hb1.mono (by simp))⟩
  · go_enter Try.func171, Try.ntmps171
    go_wp2_with fail
    all_goals go_ret
    all_goals exact ⟨ret_bool (by simp_all [waitB]), (Below.refl _ _).alloc (Nat.le_refl _) _⟩

set_option maxRecDepth 100000 in
set_option maxHeartbeats 4000000 in
theorem tright_any (a b c d e s l o wt on v t : Int) (w : World) :
    Calls Try.prog 163 #[.agg #[.int .i64 s, .int .i64 l, .int .i64 o, .int .i64 wt, .int .i64 on, .int .i64 v, .int .i64 t], .agg #[.int .i64 a, .int .i64 b, .int .i64 c, .int .i64 d, .int .i64 e]] w fun r w' => r = .returned (.bool (taskB a b c d e s l o wt on v t)) ∧ Below w.heap.size w w' := by
  have hbd : planB a b c d e = true → _ := planB_all
  have hc1 : Hid (∀ w, Calls Try.prog 47 #[.agg #[.int .i64 a, .int .i64 b, .int .i64 c, .int .i64 d, .int .i64 e]] w fun r w' => r = .returned (.bool (planB a b c d e)) ∧ Below w.heap.size w w') := hide (fun w => right_any a b c d e w)
  have hc2 : Hid (∀ w, Calls Try.prog 169 #[.int .i64 s] w fun r w' => r = .returned (.bool (btw s 1 5)) ∧ Below w.heap.size w w') := hide (fun w => known_any s w)
  have hc3 : Hid (planB a b c d e = true → ∀ w, Calls Try.prog 132 #[.agg #[.int .i64 a, .int .i64 b, .int .i64 c, .int .i64 d, .int .i64 e], .int .i64 l] w fun r w' => r = .returned (.bool (btw l 0 (c - 1))) ∧ Below w.heap.size w w') := hide (fun h w => hasLevel_any a b c d e l w (by have := hbd h; omega) (by have := hbd h; omega))
  have hc4 : Hid (planB a b c d e = true → ∀ w, Calls Try.prog 170 #[.int .i64 s, .agg #[.int .i64 a, .int .i64 b, .int .i64 c, .int .i64 d, .int .i64 e], .int .i64 o] w fun r w' => r = .returned (.bool (ownB a s o)) ∧ Below w.heap.size w w') := hide (fun h w => ownerFits_any a b c d e s o w h)
  have hc5 : Hid (planB a b c d e = true → ∀ w, Calls Try.prog 171 #[.int .i64 s, .agg #[.int .i64 a, .int .i64 b, .int .i64 c, .int .i64 d, .int .i64 e], .int .i64 wt, .int .i64 on] w fun r w' => r = .returned (.bool (waitB b d e s wt on)) ∧ Below w.heap.size w w') := hide (fun h w => waitFits_any a b c d e s wt on w h)
  have hc6 : Hid (∀ w, Calls Try.prog 104 #[.int .i64 v, .int .i64 0, .int .i64 9999] w fun r w' => r = .returned (.bool (btw v 0 9999)) ∧ w = w') := hide (fun w => between_any v 0 9999 w)
  have hc7 : Hid (∀ w, Calls Try.prog 104 #[.int .i64 t, .int .i64 0, .int .i64 1000000] w fun r w' => r = .returned (.bool (btw t 0 1000000)) ∧ w = w') := hide (fun w => between_any t 0 1000000 w)
  unfold taskB
  clear hbd
  generalize planB a b c d e = x0 at hc1 hc3 hc4 hc5 ⊢
  generalize btw s 1 5 = x1 at hc2 ⊢
  generalize btw l 0 (c - 1) = x2 at hc3 ⊢
  generalize ownB a s o = x3 at hc4 ⊢
  generalize waitB b d e s wt on = x4 at hc5 ⊢
  generalize btw v 0 9999 = x5 at hc6 ⊢
  generalize btw t 0 1000000 = x6 at hc7 ⊢
  go_enter Try.func163, Try.ntmps163
  go_wp2_with fail
  have kp := (Blk.new w 46 #[.int .i64 s, .int .i64 l, .int .i64 o, .int .i64 wt, .int .i64 on, .int .i64 v, .int .i64 t]).alloc (.cells #[.int .i64 a, .int .i64 b, .int .i64 c, .int .i64 d, .int .i64 e] 28)
  have kq := Blk.new (w.alloc (.cells #[.int .i64 s, .int .i64 l, .int .i64 o, .int .i64 wt, .int .i64 on, .int .i64 v, .int .i64 t] 46)) 28 #[.int .i64 a, .int .i64 b, .int .i64 c, .int .i64 d, .int .i64 e]
  have B3 : Below w.heap.size w ((w.alloc (.cells #[.int .i64 s, .int .i64 l, .int .i64 o, .int .i64 wt, .int .i64 on, .int .i64 v, .int .i64 t] 46)).alloc (.cells #[.int .i64 a, .int .i64 b, .int .i64 c, .int .i64 d, .int .i64 e] 28)) := by go_grown
  have hs4 : ((w.alloc (.cells #[.int .i64 s, .int .i64 l, .int .i64 o, .int .i64 wt, .int .i64 on, .int .i64 v, .int .i64 t] 46)).alloc (.cells #[.int .i64 a, .int .i64 b, .int .i64 c, .int .i64 d, .int .i64 e] 28)).heap.size = w.heap.size + 2 := by simp
  have hs3 : (w.alloc (.cells #[.int .i64 s, .int .i64 l, .int .i64 o, .int .i64 wt, .int .i64 on, .int .i64 v, .int .i64 t] 46)).heap.size = w.heap.size + 1 := by simp
  rw [hs3] at kq
  generalize ((w.alloc (.cells #[.int .i64 s, .int .i64 l, .int .i64 o, .int .i64 wt, .int .i64 on, .int .i64 v, .int .i64 t] 46)).alloc (.cells #[.int .i64 a, .int .i64 b, .int .i64 c, .int .i64 d, .int .i64 e] 28)) = W0 at kp kq B3 hs4
  have k0 := KeptW.cell (W0 := W0) (b := w.heap.size) (o := 0) (u := .int .i64 s) (kp.cell 0)
  have k1 := KeptW.cell (W0 := W0) (b := w.heap.size) (o := 1) (u := .int .i64 l) (kp.cell 1)
  have k2 := KeptW.cell (W0 := W0) (b := w.heap.size) (o := 2) (u := .int .i64 o) (kp.cell 2)
  have k3 := KeptW.cell (W0 := W0) (b := w.heap.size) (o := 3) (u := .int .i64 wt) (kp.cell 3)
  have k4 := KeptW.cell (W0 := W0) (b := w.heap.size) (o := 4) (u := .int .i64 on) (kp.cell 4)
  have k5 := KeptW.cell (W0 := W0) (b := w.heap.size) (o := 5) (u := .int .i64 v) (kp.cell 5)
  have k6 := KeptW.cell (W0 := W0) (b := w.heap.size) (o := 6) (u := .int .i64 t) (kp.cell 6)
  have l0 := KeptW.cell (W0 := W0) (b := w.heap.size + 1) (o := 0) (u := .int .i64 a) (kq.cell 0)
  have l1 := KeptW.cell (W0 := W0) (b := w.heap.size + 1) (o := 1) (u := .int .i64 b) (kq.cell 1)
  have l2 := KeptW.cell (W0 := W0) (b := w.heap.size + 1) (o := 2) (u := .int .i64 c) (kq.cell 2)
  have l3 := KeptW.cell (W0 := W0) (b := w.heap.size + 1) (o := 3) (u := .int .i64 d) (kq.cell 3)
  have l4 := KeptW.cell (W0 := W0) (b := w.heap.size + 1) (o := 4) (u := .int .i64 e) (kq.cell 4)
  have H := hide (⟨B3, by omega⟩ : Below w.heap.size w W0 ∧ w.heap.size ≤ W0.heap.size)
  have hp3 : w.heap.size + 1 < W0.heap.size := by omega
  have hp2 : w.heap.size < W0.heap.size := by omega
  clear B3 hs4 kp kq hs3
  refine kept_start ?_
  intro x
  cases x0
  · refine region_kept (by kernel_rfl) (by kernel_rfl) ?_
    repeat (go_big_quiet_step (first | (go_at_call 47; with_reducible exact kept_call (hc1.out _)) | (go_at_call 168; with_reducible exact kept_call (state_any s l o wt on v t _)) | (go_at_call 169; with_reducible exact kept_call (hc2.out _)) | (go_at_call 132; with_reducible exact kept_call (hc3.out rfl _)) | (go_at_call 170; with_reducible exact kept_call (hc4.out rfl _)) | (go_at_call 171; with_reducible exact kept_call (hc5.out rfl _)) | (go_at_call 104; with_reducible exact kept_same (hc6.out _)) | (go_at_call 104; with_reducible exact kept_same (hc7.out _))))
    refine wpQuiet_nil ?_
    rintro _ ⟨x, rfl⟩
    go_wp2
    go_ret
    exact ⟨rfl, H.out.1.trans (x.below.mono H.out.2)⟩
  cases x1
  · refine region_kept (by kernel_rfl) (by kernel_rfl) ?_
    repeat (go_big_quiet_step (first | (go_at_call 47; with_reducible exact kept_call (hc1.out _)) | (go_at_call 168; with_reducible exact kept_call (state_any s l o wt on v t _)) | (go_at_call 169; with_reducible exact kept_call (hc2.out _)) | (go_at_call 132; with_reducible exact kept_call (hc3.out rfl _)) | (go_at_call 170; with_reducible exact kept_call (hc4.out rfl _)) | (go_at_call 171; with_reducible exact kept_call (hc5.out rfl _)) | (go_at_call 104; with_reducible exact kept_same (hc6.out _)) | (go_at_call 104; with_reducible exact kept_same (hc7.out _))))
    refine wpQuiet_nil ?_
    rintro _ ⟨x, rfl⟩
    go_wp2
    go_ret
    exact ⟨rfl, H.out.1.trans (x.below.mono H.out.2)⟩
  cases x2
  · refine region_kept (by kernel_rfl) (by kernel_rfl) ?_
    repeat (go_big_quiet_step (first | (go_at_call 47; with_reducible exact kept_call (hc1.out _)) | (go_at_call 168; with_reducible exact kept_call (state_any s l o wt on v t _)) | (go_at_call 169; with_reducible exact kept_call (hc2.out _)) | (go_at_call 132; with_reducible exact kept_call (hc3.out rfl _)) | (go_at_call 170; with_reducible exact kept_call (hc4.out rfl _)) | (go_at_call 171; with_reducible exact kept_call (hc5.out rfl _)) | (go_at_call 104; with_reducible exact kept_same (hc6.out _)) | (go_at_call 104; with_reducible exact kept_same (hc7.out _))))
    refine wpQuiet_nil ?_
    rintro _ ⟨x, rfl⟩
    go_wp2
    go_ret
    exact ⟨rfl, H.out.1.trans (x.below.mono H.out.2)⟩
  cases x3
  · refine region_kept (by kernel_rfl) (by kernel_rfl) ?_
    repeat (go_big_quiet_step (first | (go_at_call 47; with_reducible exact kept_call (hc1.out _)) | (go_at_call 168; with_reducible exact kept_call (state_any s l o wt on v t _)) | (go_at_call 169; with_reducible exact kept_call (hc2.out _)) | (go_at_call 132; with_reducible exact kept_call (hc3.out rfl _)) | (go_at_call 170; with_reducible exact kept_call (hc4.out rfl _)) | (go_at_call 171; with_reducible exact kept_call (hc5.out rfl _)) | (go_at_call 104; with_reducible exact kept_same (hc6.out _)) | (go_at_call 104; with_reducible exact kept_same (hc7.out _))))
    refine wpQuiet_nil ?_
    rintro _ ⟨x, rfl⟩
    go_wp2
    go_ret
    exact ⟨rfl, H.out.1.trans (x.below.mono H.out.2)⟩
  cases x4
  · refine region_kept (by kernel_rfl) (by kernel_rfl) ?_
    repeat (go_big_quiet_step (first | (go_at_call 47; with_reducible exact kept_call (hc1.out _)) | (go_at_call 168; with_reducible exact kept_call (state_any s l o wt on v t _)) | (go_at_call 169; with_reducible exact kept_call (hc2.out _)) | (go_at_call 132; with_reducible exact kept_call (hc3.out rfl _)) | (go_at_call 170; with_reducible exact kept_call (hc4.out rfl _)) | (go_at_call 171; with_reducible exact kept_call (hc5.out rfl _)) | (go_at_call 104; with_reducible exact kept_same (hc6.out _)) | (go_at_call 104; with_reducible exact kept_same (hc7.out _))))
    refine wpQuiet_nil ?_
    rintro _ ⟨x, rfl⟩
    go_wp2
    go_ret
    exact ⟨rfl, H.out.1.trans (x.below.mono H.out.2)⟩
  cases x5
  · refine region_kept (by kernel_rfl) (by kernel_rfl) ?_
    repeat (go_big_quiet_step (first | (go_at_call 47; with_reducible exact kept_call (hc1.out _)) | (go_at_call 168; with_reducible exact kept_call (state_any s l o wt on v t _)) | (go_at_call 169; with_reducible exact kept_call (hc2.out _)) | (go_at_call 132; with_reducible exact kept_call (hc3.out rfl _)) | (go_at_call 170; with_reducible exact kept_call (hc4.out rfl _)) | (go_at_call 171; with_reducible exact kept_call (hc5.out rfl _)) | (go_at_call 104; with_reducible exact kept_same (hc6.out _)) | (go_at_call 104; with_reducible exact kept_same (hc7.out _))))
    refine wpQuiet_nil ?_
    rintro _ ⟨x, rfl⟩
    go_wp2
    go_ret
    exact ⟨rfl, H.out.1.trans (x.below.mono H.out.2)⟩
  · refine region_kept (by kernel_rfl) (by kernel_rfl) ?_
    repeat (go_big_quiet_step (first | (go_at_call 47; with_reducible exact kept_call (hc1.out _)) | (go_at_call 168; with_reducible exact kept_call (state_any s l o wt on v t _)) | (go_at_call 169; with_reducible exact kept_call (hc2.out _)) | (go_at_call 132; with_reducible exact kept_call (hc3.out rfl _)) | (go_at_call 170; with_reducible exact kept_call (hc4.out rfl _)) | (go_at_call 171; with_reducible exact kept_call (hc5.out rfl _)) | (go_at_call 104; with_reducible exact kept_same (hc6.out _)) | (go_at_call 104; with_reducible exact kept_same (hc7.out _))))
    refine wpQuiet_nil ?_
    rintro _ ⟨x, rfl⟩
    go_wp2
    go_ret
    exact ⟨rfl, H.out.1.trans (x.below.mono H.out.2)⟩

end Go.Proofs.Ytgncjcnobojgbaa

namespace Go.Proofs.Ytgncjcnobojgbaa
open Go.RowKit

def ownM (s o : Int) (x : Bool) : Bool := if s = 2 then x else o == -1
def parkM (s wt : Int) : Bool := (s == 3) == (wt != 0)
def knd (b d e wt : Int) : Int := if wt = 1 then b else if wt = 2 then d else if wt = 3 then e else 1

set_option maxHeartbeats 1000000 in
theorem l2Kinds_any (a b c d e wt : Int) (w : World) :
    Calls Try.prog 153 #[.agg #[.int .i64 a, .int .i64 b, .int .i64 c, .int .i64 d, .int .i64 e], .int .i64 wt] w fun r w' => r = .returned (.int .i64 (knd b d e wt)) ∧ Below w.heap.size w w' := by
  go_enter Try.func153, Try.ntmps153
  go_wp2_with fail
  all_goals go_ret
  all_goals refine ⟨?_, (Below.refl _ _).alloc (Nat.le_refl _) _⟩
  all_goals simp_all [knd]

set_option maxHeartbeats 1000000 in
theorem l1Value_any (v : Int) (w : World) :
    Calls Try.prog 60 #[.int .i64 v] w fun r w' => r = .returned (.bool (btw v 0 9999)) ∧ w = w' := by
  go_enter Try.func60, Try.ntmps60
  go_wp2_with fail
  go_call (l1In_any _ _ _ _) as r w1 ⟨rfl, rfl⟩
  go_wp2_with fail
  go_ret
  exact ⟨rfl, rfl⟩

theorem park_eq (s wt : Int) : parkM s wt = (decide (s = 3) == decide (wt ≠ 0)) := by
  unfold parkM
  rw [show (s == 3) = decide (s = 3) by by_cases h : s = 3 <;> simp [h], show (wt != 0) = decide (wt ≠ 0) by by_cases k : wt = 0 <;> simp [k]]
/-- The same Bool, in the model's order. -/
theorem taskB_model (a b c d e s l o wt on v t : Int) : taskB a b c d e s l o wt on v t =
    (planB a b c d e && (btw s 1 5 && (levelB a b c d e l && (btw v 0 9999 && (btw t 0 1000000 && (ownM s o (workB a b c d e o) && (btw wt 0 3 && (parkM s wt && btw on 0 (knd b d e wt - 1))))))))) := by
  rw [park_eq]
  unfold taskB ownB waitB levelB workB ownM
  cases hp : planB a b c d e
  · simp
  · have hk : btw on 0 0 = (on == 0) := by rw [Bool.eq_iff_iff]; simp [btw]; omega
    by_cases h2 : s = 2
    · subst h2
      by_cases hw : wt = 0
      · subst hw
        simp [knd, hk]
        cases btw l 0 (c - 1) <;> cases btw o 0 (a - 1) <;> cases on == 0 <;> cases btw v 0 9999 <;> cases btw t 0 1000000 <;> simp [btw]
      · simp [hw]
    · by_cases h3 : s = 3
      · subst h3
        have hw : (btw wt 0 3 && (decide (wt ≠ 0) && btw on 0 (knd b d e wt - 1))) = btw on 0 (cnt b d e wt - 1) := by
          by_cases w0 : wt = 0
          · subst w0; simp [cnt, btw]; omega
          · by_cases w1 : wt = 1
            · subst w1; simp [cnt, knd, btw]
            · by_cases w2 : wt = 2
              · subst w2; simp [cnt, knd, btw]
              · by_cases w3 : wt = 3
                · subst w3; simp [cnt, knd, btw]
                · rw [Bool.eq_iff_iff]; simp [cnt, btw, w0, w1, w2, w3]; omega
        rw [← hw]
        simp
        cases btw l 0 (c - 1) <;> cases o == -1 <;> cases btw wt 0 3 <;> cases btw v 0 9999 <;> cases btw t 0 1000000 <;> cases btw on 0 (knd b d e wt - 1) <;> simp
      · by_cases hw : wt = 0
        · subst hw
          simp [h2, h3, knd, hk]
          cases btw s 1 5 <;> cases btw l 0 (c - 1) <;> cases o == -1 <;> cases on == 0 <;> cases btw v 0 9999 <;> cases btw t 0 1000000 <;> simp [btw]
        · simp [hw, h2, h3]

set_option maxRecDepth 100000 in
set_option maxHeartbeats 4000000 in
theorem sTaskOk_any (a b c d e s l o wt on v t : Int) (w : World) :
    Calls Try.prog 114 #[.agg #[.int .i64 a, .int .i64 b, .int .i64 c, .int .i64 d, .int .i64 e], .agg #[.int .i64 s, .int .i64 l, .int .i64 o, .int .i64 wt, .int .i64 on, .int .i64 v, .int .i64 t]] w fun r w' => r = .returned (.bool (taskB a b c d e s l o wt on v t)) ∧ Below w.heap.size w w' := by
  rw [taskB_model]
  have hkn : planB a b c d e = true → 0 ≤ knd b d e wt ∧ knd b d e wt ≤ 30 := fun h => by
    have := planB_all h
    unfold knd; split <;> (try split) <;> (try split) <;> omega
  have hc0 : Hid (∀ w, Calls Try.prog 58 #[.agg #[.int .i64 a, .int .i64 b, .int .i64 c, .int .i64 d, .int .i64 e]] w fun r w' => r = .returned (.bool (planB a b c d e)) ∧ Below w.heap.size w w') := hide (fun w => sPlanOk_any a b c d e w)
  have hc1 : Hid (∀ w, Calls Try.prog 59 #[.int .i64 s, .int .i64 1, .int .i64 5] w fun r w' => r = .returned (.bool (btw s 1 5)) ∧ w = w') := hide (fun w => l1In_any s 1 5 w)
  have hc2 : Hid (∀ w, Calls Try.prog 90 #[.agg #[.int .i64 a, .int .i64 b, .int .i64 c, .int .i64 d, .int .i64 e], .int .i64 l] w fun r w' => r = .returned (.bool (levelB a b c d e l)) ∧ Below w.heap.size w w') := hide (fun w => sLevelIn_any a b c d e l w)
  have hc3 : Hid (∀ w, Calls Try.prog 60 #[.int .i64 v] w fun r w' => r = .returned (.bool (btw v 0 9999)) ∧ w = w') := hide (fun w => l1Value_any v w)
  have hc4 : Hid (∀ w, Calls Try.prog 59 #[.int .i64 t, .int .i64 0, .int .i64 1000000] w fun r w' => r = .returned (.bool (btw t 0 1000000)) ∧ w = w') := hide (fun w => l1In_any t 0 1000000 w)
  have hc5 : Hid (∀ w, Calls Try.prog 128 #[.agg #[.int .i64 a, .int .i64 b, .int .i64 c, .int .i64 d, .int .i64 e], .int .i64 o] w fun r w' => r = .returned (.bool (workB a b c d e o)) ∧ Below w.heap.size w w') := hide (fun w => sWorkerIn_any a b c d e o w)
  have hc6 : Hid (∀ w, Calls Try.prog 59 #[.int .i64 wt, .int .i64 0, .int .i64 3] w fun r w' => r = .returned (.bool (btw wt 0 3)) ∧ w = w') := hide (fun w => l1In_any wt 0 3 w)
  have hc7 : Hid (∀ w, Calls Try.prog 153 #[.agg #[.int .i64 a, .int .i64 b, .int .i64 c, .int .i64 d, .int .i64 e], .int .i64 wt] w fun r w' => r = .returned (.int .i64 (knd b d e wt)) ∧ Below w.heap.size w w') := hide (fun w => l2Kinds_any a b c d e wt w)
  generalize planB a b c d e = x0 at hc0 hkn ⊢
  generalize btw s 1 5 = x1 at hc1 ⊢
  generalize levelB a b c d e l = x2 at hc2 ⊢
  generalize btw v 0 9999 = x3 at hc3 ⊢
  generalize btw t 0 1000000 = x4 at hc4 ⊢
  generalize workB a b c d e o = x5 at hc5 ⊢
  generalize btw wt 0 3 = x6 at hc6 ⊢
  generalize knd b d e wt = kn at hc7 hkn ⊢
  go_enter Try.func114, Try.ntmps114
  go_wp2_with fail
  have kb0 := Blk.new w 28 #[.int .i64 a, .int .i64 b, .int .i64 c, .int .i64 d, .int .i64 e]
  have hz0 : (w.alloc (.cells #[.int .i64 a, .int .i64 b, .int .i64 c, .int .i64 d, .int .i64 e] 28)).heap.size = w.heap.size + 1 := by simp
  have kb1 := Blk.new (w.alloc (.cells #[.int .i64 a, .int .i64 b, .int .i64 c, .int .i64 d, .int .i64 e] 28)) 46 #[.int .i64 s, .int .i64 l, .int .i64 o, .int .i64 wt, .int .i64 on, .int .i64 v, .int .i64 t]
  have hz1 : ((w.alloc (.cells #[.int .i64 a, .int .i64 b, .int .i64 c, .int .i64 d, .int .i64 e] 28)).alloc (.cells #[.int .i64 s, .int .i64 l, .int .i64 o, .int .i64 wt, .int .i64 on, .int .i64 v, .int .i64 t] 46)).heap.size = w.heap.size + 2 := by simp
  rw [hz0] at kb1
  replace kb0 := kb0.alloc (.cells #[.int .i64 s, .int .i64 l, .int .i64 o, .int .i64 wt, .int .i64 on, .int .i64 v, .int .i64 t] 46)
  have hBel : Below w.heap.size w ((w.alloc (.cells #[.int .i64 a, .int .i64 b, .int .i64 c, .int .i64 d, .int .i64 e] 28)).alloc (.cells #[.int .i64 s, .int .i64 l, .int .i64 o, .int .i64 wt, .int .i64 on, .int .i64 v, .int .i64 t] 46)) := by go_grown
  generalize ((w.alloc (.cells #[.int .i64 a, .int .i64 b, .int .i64 c, .int .i64 d, .int .i64 e] 28)).alloc (.cells #[.int .i64 s, .int .i64 l, .int .i64 o, .int .i64 wt, .int .i64 on, .int .i64 v, .int .i64 t] 46)) = W0 at kb0 kb1 hBel hz1 ⊢
  have c0_0 := KeptW.cell (W0 := W0) (b := w.heap.size) (o := 0) (u := .int .i64 a) (kb0.cell 0)
  have c0_1 := KeptW.cell (W0 := W0) (b := w.heap.size) (o := 1) (u := .int .i64 b) (kb0.cell 1)
  have c0_2 := KeptW.cell (W0 := W0) (b := w.heap.size) (o := 2) (u := .int .i64 c) (kb0.cell 2)
  have c0_3 := KeptW.cell (W0 := W0) (b := w.heap.size) (o := 3) (u := .int .i64 d) (kb0.cell 3)
  have c0_4 := KeptW.cell (W0 := W0) (b := w.heap.size) (o := 4) (u := .int .i64 e) (kb0.cell 4)
  have c1_0 := KeptW.cell (W0 := W0) (b := w.heap.size + 1) (o := 0) (u := .int .i64 s) (kb1.cell 0)
  have c1_1 := KeptW.cell (W0 := W0) (b := w.heap.size + 1) (o := 1) (u := .int .i64 l) (kb1.cell 1)
  have c1_2 := KeptW.cell (W0 := W0) (b := w.heap.size + 1) (o := 2) (u := .int .i64 o) (kb1.cell 2)
  have c1_3 := KeptW.cell (W0 := W0) (b := w.heap.size + 1) (o := 3) (u := .int .i64 wt) (kb1.cell 3)
  have c1_4 := KeptW.cell (W0 := W0) (b := w.heap.size + 1) (o := 4) (u := .int .i64 on) (kb1.cell 4)
  have c1_5 := KeptW.cell (W0 := W0) (b := w.heap.size + 1) (o := 5) (u := .int .i64 v) (kb1.cell 5)
  have c1_6 := KeptW.cell (W0 := W0) (b := w.heap.size + 1) (o := 6) (u := .int .i64 t) (kb1.cell 6)
  have H := hide (⟨hBel, by omega⟩ : Below w.heap.size w W0 ∧ w.heap.size ≤ W0.heap.size)
  clear hBel hz0 kb0 hz1 kb1
  have hx0 := KeptW.mk'_w (Below.refl W0.heap.size W0)
  generalize KeptW.mk' (Below.refl W0.heap.size W0) = x at hx0
  rw [← hx0]
  clear hx0
  cases x0
  · go_wp2_with (first | (go_at_call 58; with_reducible refine Calls.mono (kept_call (hc0.out _)) ?_; rintro _ _ ⟨rfl, x, rfl⟩) | (go_at_call 59; with_reducible refine Calls.mono (kept_same (hc1.out _)) ?_; rintro _ _ ⟨rfl, x, rfl⟩) | (go_at_call 90; with_reducible refine Calls.mono (kept_call (hc2.out _)) ?_; rintro _ _ ⟨rfl, x, rfl⟩) | (go_at_call 60; with_reducible refine Calls.mono (kept_same (hc3.out _)) ?_; rintro _ _ ⟨rfl, x, rfl⟩) | (go_at_call 59; with_reducible refine Calls.mono (kept_same (hc4.out _)) ?_; rintro _ _ ⟨rfl, x, rfl⟩) | (go_at_call 128; with_reducible refine Calls.mono (kept_call (hc5.out _)) ?_; rintro _ _ ⟨rfl, x, rfl⟩) | (go_at_call 59; with_reducible refine Calls.mono (kept_same (hc6.out _)) ?_; rintro _ _ ⟨rfl, x, rfl⟩) | (go_at_call 153; with_reducible refine Calls.mono (kept_call (hc7.out _)) ?_; rintro _ _ ⟨rfl, x, rfl⟩) | (go_at_call 59; with_reducible refine Calls.mono (kept_same (l1In_any on 0 (kn - 1) _)) ?_; rintro _ _ ⟨rfl, x, rfl⟩))
    go_ret
    exact ⟨rfl, H.out.1.trans (x.below.mono H.out.2)⟩
  cases x1
  · go_wp2_with (first | (go_at_call 58; with_reducible refine Calls.mono (kept_call (hc0.out _)) ?_; rintro _ _ ⟨rfl, x, rfl⟩) | (go_at_call 59; with_reducible refine Calls.mono (kept_same (hc1.out _)) ?_; rintro _ _ ⟨rfl, x, rfl⟩) | (go_at_call 90; with_reducible refine Calls.mono (kept_call (hc2.out _)) ?_; rintro _ _ ⟨rfl, x, rfl⟩) | (go_at_call 60; with_reducible refine Calls.mono (kept_same (hc3.out _)) ?_; rintro _ _ ⟨rfl, x, rfl⟩) | (go_at_call 59; with_reducible refine Calls.mono (kept_same (hc4.out _)) ?_; rintro _ _ ⟨rfl, x, rfl⟩) | (go_at_call 128; with_reducible refine Calls.mono (kept_call (hc5.out _)) ?_; rintro _ _ ⟨rfl, x, rfl⟩) | (go_at_call 59; with_reducible refine Calls.mono (kept_same (hc6.out _)) ?_; rintro _ _ ⟨rfl, x, rfl⟩) | (go_at_call 153; with_reducible refine Calls.mono (kept_call (hc7.out _)) ?_; rintro _ _ ⟨rfl, x, rfl⟩) | (go_at_call 59; with_reducible refine Calls.mono (kept_same (l1In_any on 0 (kn - 1) _)) ?_; rintro _ _ ⟨rfl, x, rfl⟩))
    go_ret
    exact ⟨rfl, H.out.1.trans (x.below.mono H.out.2)⟩
  cases x2
  · go_wp2_with (first | (go_at_call 58; with_reducible refine Calls.mono (kept_call (hc0.out _)) ?_; rintro _ _ ⟨rfl, x, rfl⟩) | (go_at_call 59; with_reducible refine Calls.mono (kept_same (hc1.out _)) ?_; rintro _ _ ⟨rfl, x, rfl⟩) | (go_at_call 90; with_reducible refine Calls.mono (kept_call (hc2.out _)) ?_; rintro _ _ ⟨rfl, x, rfl⟩) | (go_at_call 60; with_reducible refine Calls.mono (kept_same (hc3.out _)) ?_; rintro _ _ ⟨rfl, x, rfl⟩) | (go_at_call 59; with_reducible refine Calls.mono (kept_same (hc4.out _)) ?_; rintro _ _ ⟨rfl, x, rfl⟩) | (go_at_call 128; with_reducible refine Calls.mono (kept_call (hc5.out _)) ?_; rintro _ _ ⟨rfl, x, rfl⟩) | (go_at_call 59; with_reducible refine Calls.mono (kept_same (hc6.out _)) ?_; rintro _ _ ⟨rfl, x, rfl⟩) | (go_at_call 153; with_reducible refine Calls.mono (kept_call (hc7.out _)) ?_; rintro _ _ ⟨rfl, x, rfl⟩) | (go_at_call 59; with_reducible refine Calls.mono (kept_same (l1In_any on 0 (kn - 1) _)) ?_; rintro _ _ ⟨rfl, x, rfl⟩))
    go_ret
    exact ⟨rfl, H.out.1.trans (x.below.mono H.out.2)⟩
  cases x3
  · go_wp2_with (first | (go_at_call 58; with_reducible refine Calls.mono (kept_call (hc0.out _)) ?_; rintro _ _ ⟨rfl, x, rfl⟩) | (go_at_call 59; with_reducible refine Calls.mono (kept_same (hc1.out _)) ?_; rintro _ _ ⟨rfl, x, rfl⟩) | (go_at_call 90; with_reducible refine Calls.mono (kept_call (hc2.out _)) ?_; rintro _ _ ⟨rfl, x, rfl⟩) | (go_at_call 60; with_reducible refine Calls.mono (kept_same (hc3.out _)) ?_; rintro _ _ ⟨rfl, x, rfl⟩) | (go_at_call 59; with_reducible refine Calls.mono (kept_same (hc4.out _)) ?_; rintro _ _ ⟨rfl, x, rfl⟩) | (go_at_call 128; with_reducible refine Calls.mono (kept_call (hc5.out _)) ?_; rintro _ _ ⟨rfl, x, rfl⟩) | (go_at_call 59; with_reducible refine Calls.mono (kept_same (hc6.out _)) ?_; rintro _ _ ⟨rfl, x, rfl⟩) | (go_at_call 153; with_reducible refine Calls.mono (kept_call (hc7.out _)) ?_; rintro _ _ ⟨rfl, x, rfl⟩) | (go_at_call 59; with_reducible refine Calls.mono (kept_same (l1In_any on 0 (kn - 1) _)) ?_; rintro _ _ ⟨rfl, x, rfl⟩))
    go_ret
    exact ⟨rfl, H.out.1.trans (x.below.mono H.out.2)⟩
  cases x4
  · go_wp2_with (first | (go_at_call 58; with_reducible refine Calls.mono (kept_call (hc0.out _)) ?_; rintro _ _ ⟨rfl, x, rfl⟩) | (go_at_call 59; with_reducible refine Calls.mono (kept_same (hc1.out _)) ?_; rintro _ _ ⟨rfl, x, rfl⟩) | (go_at_call 90; with_reducible refine Calls.mono (kept_call (hc2.out _)) ?_; rintro _ _ ⟨rfl, x, rfl⟩) | (go_at_call 60; with_reducible refine Calls.mono (kept_same (hc3.out _)) ?_; rintro _ _ ⟨rfl, x, rfl⟩) | (go_at_call 59; with_reducible refine Calls.mono (kept_same (hc4.out _)) ?_; rintro _ _ ⟨rfl, x, rfl⟩) | (go_at_call 128; with_reducible refine Calls.mono (kept_call (hc5.out _)) ?_; rintro _ _ ⟨rfl, x, rfl⟩) | (go_at_call 59; with_reducible refine Calls.mono (kept_same (hc6.out _)) ?_; rintro _ _ ⟨rfl, x, rfl⟩) | (go_at_call 153; with_reducible refine Calls.mono (kept_call (hc7.out _)) ?_; rintro _ _ ⟨rfl, x, rfl⟩) | (go_at_call 59; with_reducible refine Calls.mono (kept_same (l1In_any on 0 (kn - 1) _)) ?_; rintro _ _ ⟨rfl, x, rfl⟩))
    go_ret
    exact ⟨rfl, H.out.1.trans (x.below.mono H.out.2)⟩
  have hk1 := (hkn rfl).1
  have hk2 := (hkn rfl).2
  clear hkn
  go_wp2_with (first | (go_at_call 58; with_reducible refine Calls.mono (kept_call (hc0.out _)) ?_; rintro _ _ ⟨rfl, x, rfl⟩) | (go_at_call 59; with_reducible refine Calls.mono (kept_same (hc1.out _)) ?_; rintro _ _ ⟨rfl, x, rfl⟩) | (go_at_call 90; with_reducible refine Calls.mono (kept_call (hc2.out _)) ?_; rintro _ _ ⟨rfl, x, rfl⟩) | (go_at_call 60; with_reducible refine Calls.mono (kept_same (hc3.out _)) ?_; rintro _ _ ⟨rfl, x, rfl⟩) | (go_at_call 59; with_reducible refine Calls.mono (kept_same (hc4.out _)) ?_; rintro _ _ ⟨rfl, x, rfl⟩) | (go_at_call 128; with_reducible refine Calls.mono (kept_call (hc5.out _)) ?_; rintro _ _ ⟨rfl, x, rfl⟩) | (go_at_call 59; with_reducible refine Calls.mono (kept_same (hc6.out _)) ?_; rintro _ _ ⟨rfl, x, rfl⟩) | (go_at_call 153; with_reducible refine Calls.mono (kept_call (hc7.out _)) ?_; rintro _ _ ⟨rfl, x, rfl⟩) | (go_at_call 59; with_reducible refine Calls.mono (kept_same (l1In_any on 0 (kn - 1) _)) ?_; rintro _ _ ⟨rfl, x, rfl⟩))
  all_goals first
    | (go_ret
       refine ⟨ret_bool ?_, H.out.1.trans (x.below.mono H.out.2)⟩
       clear c0_0 c0_1 c0_2 c0_3 c0_4 c1_0 c1_1 c1_2 c1_3 c1_4 c1_5 c1_6 hc0 hc1 hc2 hc3 hc4 hc5 hc6 hc7
       simp_all [ownM, parkM]; done)
    | (refine region_kept (by kernel_rfl) (by kernel_rfl) ?_
       repeat (go_big_quiet_step (first | (go_at_call 58; with_reducible exact (kept_call (hc0.out _))) | (go_at_call 59; with_reducible exact (kept_same (hc1.out _))) | (go_at_call 90; with_reducible exact (kept_call (hc2.out _))) | (go_at_call 60; with_reducible exact (kept_same (hc3.out _))) | (go_at_call 59; with_reducible exact (kept_same (hc4.out _))) | (go_at_call 128; with_reducible exact (kept_call (hc5.out _))) | (go_at_call 59; with_reducible exact (kept_same (hc6.out _))) | (go_at_call 153; with_reducible exact (kept_call (hc7.out _))) | (go_at_call 59; with_reducible exact (kept_same (l1In_any on 0 (kn - 1) _)))))
       refine wpQuiet_nil ?_
       rintro _ ⟨x, rfl⟩
       go_wp2
       go_ret
       refine ⟨ret_bool ?_, H.out.1.trans (x.below.mono H.out.2)⟩
       clear c0_0 c0_1 c0_2 c0_3 c0_4 c1_0 c1_1 c1_2 c1_3 c1_4 c1_5 c1_6 hc0 hc1 hc2 hc3 hc4 hc5 hc6 hc7
       simp_all [ownM, parkM]; done)
end Go.Proofs.Ytgncjcnobojgbaa

namespace Go.Proofs.Ytgncjcnobojgbaa
open Go.RowKit

set_option maxHeartbeats 1000000 in
theorem sIsOpen_any (s l o wt on v t : Int) (w : World) :
    Calls Try.prog 161 #[.agg #[.int .i64 s, .int .i64 l, .int .i64 o, .int .i64 wt, .int .i64 on, .int .i64 v, .int .i64 t]] w fun r w' => r = .returned (.bool (openB s)) ∧ Below w.heap.size w w' := by
  go_enter Try.func161, Try.ntmps161
  go_wp2_with fail
  go_call (l1In_any _ _ _ _) as r w1 ⟨rfl, rfl⟩
  go_wp2_with fail
  go_ret
  exact ⟨rfl, by go_grown⟩

set_option maxHeartbeats 1000000 in
theorem sNewTask_any (lv tn : Int) (w : World) :
    Calls Try.prog 92 #[.int .i64 lv, .int .i64 tn] w fun r w' => r = .returned (.agg #[.int .i64 1, .int .i64 lv, .int .i64 (-1), .int .i64 0, .int .i64 0, .int .i64 0, .int .i64 tn]) ∧ Below w.heap.size w w' := by
  go_enter Try.func92, Try.ntmps92
  go_wp2
  exact bodyPost_ret (v := .agg #[.int .i64 1, .int .i64 lv, .int .i64 (-1), .int .i64 0, .int .i64 0, .int .i64 0, .int .i64 tn]) (by simp [results, Try.results92, go_sem]) rfl ⟨rfl, by go_grown⟩

set_option maxHeartbeats 1000000 in
theorem toTask_any (s l o wt on v t : Int) (w : World) :
    Calls Try.prog 122 #[.agg #[.int .i64 s, .int .i64 l, .int .i64 o, .int .i64 wt, .int .i64 on, .int .i64 v, .int .i64 t]] w fun r w' => r = .returned (.agg #[.int .i64 s, .int .i64 l, .int .i64 o, .int .i64 wt, .int .i64 on, .int .i64 v, .int .i64 t]) ∧ Below w.heap.size w w' := by
  go_enter Try.func122, Try.ntmps122
  go_wp2
  exact bodyPost_ret (v := .agg #[.int .i64 s, .int .i64 l, .int .i64 o, .int .i64 wt, .int .i64 on, .int .i64 v, .int .i64 t]) (by simp [results, Try.results122, go_sem]) rfl ⟨rfl, by go_grown⟩

set_option maxHeartbeats 1000000 in
theorem eqTask_same (s l o wt on v t : Int) (w : World) :
    Calls Try.prog 126 #[.agg #[.int .i64 s, .int .i64 l, .int .i64 o, .int .i64 wt, .int .i64 on, .int .i64 v, .int .i64 t], .agg #[.int .i64 s, .int .i64 l, .int .i64 o, .int .i64 wt, .int .i64 on, .int .i64 v, .int .i64 t]] w fun r w' => r = .returned (.bool true) ∧ Below w.heap.size w w' := by
  go_enter Try.func126, Try.ntmps126
  go_wp2
  go_ret
  exact ⟨rfl, by go_grown⟩

end Go.Proofs.Ytgncjcnobojgbaa

namespace Go.Proofs.Ytgncjcnobojgbaa
open Go.RowKit

set_option maxHeartbeats 1000000 in
theorem toFuture_any (s : Bool) (v : Int) (w : World) :
    Calls Try.prog 123 #[.agg #[.bool s, .int .i64 v]] w fun r w' => r = .returned (.agg #[.bool s, .int .i64 v]) ∧ Below w.heap.size w w' := by
  go_enter Try.func123, Try.ntmps123
  go_wp2
  exact bodyPost_ret (v := .agg #[.bool s, .int .i64 v]) (by simp [results, Try.results123, go_sem]) rfl ⟨rfl, by go_grown⟩

set_option maxRecDepth 100000 in
set_option maxHeartbeats 1000000 in
theorem toTaskS_any (ts : List T7) (A : Option Addr) (c : Nat) (w : World) (hlen : ts.length ≤ 1048576) (h0 : Row w A (tcells ts)) :
    Calls Try.prog 76 #[.slice A ts.length c] w fun r w' => ∃ A', r = .returned (.slice A' ts.length ts.length) ∧ w'.ownsRow w.heap.size 46 7 (.slice A' ts.length ts.length) ts.length (tcells ts) ∧ Below w.heap.size w w' := by
  have H0 := hide h0
  clear h0
  obtain ⟨i0, hi, hz0, hz1, hz2⟩ := info_parts infoTask
  go_enter Try.func76, Try.ntmps76
  go_wp2_with (at_make; refine wpList_make_full _ rfl _ _ 30 rfl w.heap.size 46 i0 (.agg #[.int .i64 0, .int .i64 0, .int .i64 0, .int .i64 0, .int .i64 0, .int .i64 0, .int .i64 0]) 7 Try.underlying30 hi hz0 hz1 .i64 .i64 _ _ ts.length rfl rfl rfl rfl (by rw [hz2]; omega) (by unfold maxLen; omega) (Nat.le_refl _) ?_; intro w1 hown hgr)
  rw [tmade] at hown
  have hbel := Below.grown (Below.refl w.heap.size w) hgr (Nat.le_refl _) (by intro g e; cases e)
  clear hgr
  go_loopw [4] (fun i wr => ∃ (k : Nat) (us : List T7), k ≤ ts.length ∧ i = .int .i64 k ∧ us.length = ts.length ∧ us.take k = ts.take k ∧ wr.ownsRow w.heap.size 46 7 (.slice (some ⟨w.heap.size, 0, none⟩) ts.length ts.length) ts.length (tcells us) ∧ Below w.heap.size w wr) (fun i _ => ts.length - (intOf i).toNat)
  case atStart => exact ⟨0, List.replicate ts.length ⟨0, 0, 0, 0, 0, 0, 0⟩, Nat.zero_le _, rfl, by simp, rfl, hown, hbel⟩
  case round =>
    clear hbel hown
    obtain ⟨k, us, hk, rfl, hul, htk, hown, hbel⟩ := hrel
    have hz := hbel.size
    by_cases hlt : k < ts.length
    · obtain ⟨b, off, s, l, o, wt, on, v, t, rfl, hd, ht, hbz, z0, z1, z2, z3, z4, z5, z6⟩ := (H0.out.below hbel).ts_at hlt
      obtain ⟨s1, l1, o1, wt1, on1, v1, t1, _, y0, y1, y2, y3, y4, y5, y6⟩ := Own.t7 hown (show k < us.length by omega)
      have f0 : wr.frozen? ⟨w.heap.size, k * 7, none⟩ = false := Own.fz hown _
      have f1 : wr.frozen? ⟨w.heap.size, k * 7 + 1, none⟩ = false := Own.fz hown _
      have f2 : wr.frozen? ⟨w.heap.size, k * 7 + 2, none⟩ = false := Own.fz hown _
      have f3 : wr.frozen? ⟨w.heap.size, k * 7 + 3, none⟩ = false := Own.fz hown _
      have f4 : wr.frozen? ⟨w.heap.size, k * 7 + 4, none⟩ = false := Own.fz hown _
      have f5 : wr.frozen? ⟨w.heap.size, k * 7 + 5, none⟩ = false := Own.fz hown _
      have f6 : wr.frozen? ⟨w.heap.size, k * 7 + 6, none⟩ = false := Own.fz hown _
      have H1 := hide (⟨hown, ht, hul, htk⟩ : _ ∧ _ ∧ _ ∧ _)
      have hbl : w.heap.size < wr.heap.size := (hown.lt w.heap.size rfl).2
      clear hd ht hown hul htk
      go_wp2_with (go_at_call 122; refine (toTask_any _ _ _ _ _ _ _ _).mono ?_; rintro r w2 ⟨rfl, hb2⟩; obtain ⟨hc, hf⟩ := bcell hb2)
      have hb3 := hbel.trans (hb2.mono hz)
      go_roundw
      case rel => exact ⟨k + 1, _, by omega, by go_num, by rw [List.length_set]; exact H1.out.2.2.1, take_set H1.out.2.2.1 H1.out.2.2.2 H1.out.2.1, Own.put7 (Own.below H1.out.1 hb2) k s l o wt on v t, by go_grown⟩
      case measure => simp [intOf]; omega
    · obtain rfl : k = ts.length := by omega
      rw [← hul, List.take_length, hul, List.take_length] at htk
      subst htk
      have H1 := hide hown
      clear hown
      go_wp2
      go_ret
      exact ⟨_, rfl, H1.out, hbel⟩

set_option maxRecDepth 100000 in
set_option maxHeartbeats 1000000 in
theorem toInt64S_any (ks : List Int) (A : Option Addr) (c : Nat) (w : World) (hlen : ks.length ≤ 1048576) (h0 : Row w A (icells ks)) :
    Calls Try.prog 77 #[.slice A ks.length c] w fun r w' => ∃ A', r = .returned (.slice A' ks.length ks.length) ∧ w'.ownsRow w.heap.size 2 1 (.slice A' ks.length ks.length) ks.length (icells ks) ∧ Below w.heap.size w w' := by
  have H0 := hide h0
  clear h0
  obtain ⟨i0, hi, hz0, hz1, hz2⟩ := info_parts infoInt
  go_enter Try.func77, Try.ntmps77
  go_wp2_with (at_make; refine wpList_make_full _ rfl _ _ 31 rfl w.heap.size 2 i0 (.int .i64 0) 1 Try.underlying31 hi hz0 hz1 .i64 .i64 _ _ ks.length rfl rfl rfl rfl (by rw [hz2]; omega) (by unfold maxLen; omega) (Nat.le_refl _) ?_; intro w1 hown hgr)
  rw [imade] at hown
  have hbel := Below.grown (Below.refl w.heap.size w) hgr (Nat.le_refl _) (by intro g e; cases e)
  clear hgr
  go_loopw [4] (fun i wr => ∃ (k : Nat) (us : List Int), k ≤ ks.length ∧ i = .int .i64 k ∧ us.length = ks.length ∧ us.take k = ks.take k ∧ wr.ownsRow w.heap.size 2 1 (.slice (some ⟨w.heap.size, 0, none⟩) ks.length ks.length) ks.length (icells us) ∧ Below w.heap.size w wr) (fun i _ => ks.length - (intOf i).toNat)
  case atStart => exact ⟨0, List.replicate ks.length 0, Nat.zero_le _, rfl, by simp, rfl, hown, hbel⟩
  case round =>
    clear hbel hown
    obtain ⟨k, us, hk, rfl, hul, htk, hown, hbel⟩ := hrel
    have hz := hbel.size
    by_cases hlt : k < ks.length
    · obtain ⟨b, off, v, rfl, hd, ht, hbz, z0⟩ := (H0.out.below hbel).ks_at hlt
      obtain ⟨v1, _, y0⟩ := Own.i1 hown (show k < us.length by omega)
      have f0 : wr.frozen? ⟨w.heap.size, k, none⟩ = false := Own.fz hown _
      have H1 := hide (⟨hown, ht, hul, htk⟩ : _ ∧ _ ∧ _ ∧ _)
      have hbl : w.heap.size < wr.heap.size := (hown.lt w.heap.size rfl).2
      clear hd ht hown hul htk
      go_wp2
      go_roundw
      case rel => exact ⟨k + 1, _, by omega, by go_num, by rw [List.length_set]; exact H1.out.2.2.1, take_set H1.out.2.2.1 H1.out.2.2.2 H1.out.2.1, Own.put1 H1.out.1 k v, by go_grown⟩
      case measure => simp [intOf]; omega
    · obtain rfl : k = ks.length := by omega
      rw [← hul, List.take_length, hul, List.take_length] at htk
      subst htk
      have H1 := hide hown
      clear hown
      go_wp2
      go_ret
      exact ⟨_, rfl, H1.out, hbel⟩

set_option maxRecDepth 100000 in
set_option maxHeartbeats 1000000 in
theorem toFutureS_any (fs : List F2) (A : Option Addr) (c : Nat) (w : World) (hlen : fs.length ≤ 1048576) (h0 : Row w A (fcells fs)) :
    Calls Try.prog 78 #[.slice A fs.length c] w fun r w' => ∃ A', r = .returned (.slice A' fs.length fs.length) ∧ w'.ownsRow w.heap.size 90 2 (.slice A' fs.length fs.length) fs.length (fcells fs) ∧ Below w.heap.size w w' := by
  have H0 := hide h0
  clear h0
  obtain ⟨i0, hi, hz0, hz1, hz2⟩ := info_parts infoFut
  go_enter Try.func78, Try.ntmps78
  go_wp2_with (at_make; refine wpList_make_full _ rfl _ _ 32 rfl w.heap.size 90 i0 (.agg #[.bool false, .int .i64 0]) 2 Try.underlying32 hi hz0 hz1 .i64 .i64 _ _ fs.length rfl rfl rfl rfl (by rw [hz2]; omega) (by unfold maxLen; omega) (Nat.le_refl _) ?_; intro w1 hown hgr)
  rw [fmade] at hown
  have hbel := Below.grown (Below.refl w.heap.size w) hgr (Nat.le_refl _) (by intro g e; cases e)
  clear hgr
  go_loopw [4] (fun i wr => ∃ (k : Nat) (us : List F2), k ≤ fs.length ∧ i = .int .i64 k ∧ us.length = fs.length ∧ us.take k = fs.take k ∧ wr.ownsRow w.heap.size 90 2 (.slice (some ⟨w.heap.size, 0, none⟩) fs.length fs.length) fs.length (fcells us) ∧ Below w.heap.size w wr) (fun i _ => fs.length - (intOf i).toNat)
  case atStart => exact ⟨0, List.replicate fs.length ⟨false, 0⟩, Nat.zero_le _, rfl, by simp, rfl, hown, hbel⟩
  case round =>
    clear hbel hown
    obtain ⟨k, us, hk, rfl, hul, htk, hown, hbel⟩ := hrel
    have hz := hbel.size
    by_cases hlt : k < fs.length
    · obtain ⟨b, off, s, v, rfl, hd, ht, hbz, z0, z1⟩ := (H0.out.below hbel).fs_at hlt
      obtain ⟨s1, v1, _, y0, y1⟩ := Own.f2 hown (show k < us.length by omega)
      have f0 : wr.frozen? ⟨w.heap.size, k * 2, none⟩ = false := Own.fz hown _
      have f1 : wr.frozen? ⟨w.heap.size, k * 2 + 1, none⟩ = false := Own.fz hown _
      have H1 := hide (⟨hown, ht, hul, htk⟩ : _ ∧ _ ∧ _ ∧ _)
      have hbl : w.heap.size < wr.heap.size := (hown.lt w.heap.size rfl).2
      clear hd ht hown hul htk
      go_wp2_with (go_at_call 123; refine (toFuture_any _ _ _).mono ?_; rintro r w2 ⟨rfl, hb2⟩; obtain ⟨hc, hf⟩ := bcell hb2)
      have hb3 := hbel.trans (hb2.mono hz)
      go_roundw
      case rel => exact ⟨k + 1, _, by omega, by go_num, by rw [List.length_set]; exact H1.out.2.2.1, take_set H1.out.2.2.1 H1.out.2.2.2 H1.out.2.1, Own.put2 (Own.below H1.out.1 hb2) k s v, by go_grown⟩
      case measure => simp [intOf]; omega
    · obtain rfl : k = fs.length := by omega
      rw [← hul, List.take_length, hul, List.take_length] at htk
      subst htk
      have H1 := hide hown
      clear hown
      go_wp2
      go_ret
      exact ⟨_, rfl, H1.out, hbel⟩
end Go.Proofs.Ytgncjcnobojgbaa

namespace Go.Proofs.Ytgncjcnobojgbaa
open Go.RowKit

def szM (n : Nat) (L : Int) : Int := if L < n then -1 else L - n

set_option maxHeartbeats 1000000 in
theorem szTaskS_any (A : Option Addr) (n c : Nat) (L : Int) (w : World) (hn : n ≤ 9223372036854775807) (h0 : 0 ≤ L) (h1 : L ≤ 1048576) :
    Calls Try.prog 70 #[.slice A n c, .int .i64 L] w fun r w' => r = .returned (.int .i64 (szM n L)) ∧ w = w' := by
  by_cases h : L < n
  · rw [show szM n L = -1 from by simp [szM, h]]
    go_enter Try.func70, Try.ntmps70
    go_wp2
    go_ret
    exact ⟨rfl, rfl⟩
  · rw [show szM n L = L - n from by simp [szM, h]]
    go_enter Try.func70, Try.ntmps70
    go_wp2
    go_ret
    exact ⟨rfl, rfl⟩

set_option maxHeartbeats 1000000 in
theorem szInt64S_any (A : Option Addr) (n c : Nat) (L : Int) (w : World) (hn : n ≤ 9223372036854775807) (h0 : 0 ≤ L) (h1 : L ≤ 1048576) :
    Calls Try.prog 71 #[.slice A n c, .int .i64 L] w fun r w' => r = .returned (.int .i64 (szM n L)) ∧ w = w' := by
  by_cases h : L < n
  · rw [show szM n L = -1 from by simp [szM, h]]
    go_enter Try.func71, Try.ntmps71
    go_wp2
    go_ret
    exact ⟨rfl, rfl⟩
  · rw [show szM n L = L - n from by simp [szM, h]]
    go_enter Try.func71, Try.ntmps71
    go_wp2
    go_ret
    exact ⟨rfl, rfl⟩

set_option maxHeartbeats 1000000 in
theorem szFutureS_any (A : Option Addr) (n c : Nat) (L : Int) (w : World) (hn : n ≤ 9223372036854775807) (h0 : 0 ≤ L) (h1 : L ≤ 1048576) :
    Calls Try.prog 72 #[.slice A n c, .int .i64 L] w fun r w' => r = .returned (.int .i64 (szM n L)) ∧ w = w' := by
  by_cases h : L < n
  · rw [show szM n L = -1 from by simp [szM, h]]
    go_enter Try.func72, Try.ntmps72
    go_wp2
    go_ret
    exact ⟨rfl, rfl⟩
  · rw [show szM n L = L - n from by simp [szM, h]]
    go_enter Try.func72, Try.ntmps72
    go_wp2
    go_ret
    exact ⟨rfl, rfl⟩

def szPoolM (n0 n1 n2 : Nat) : Int := if n0 + n1 + n2 ≤ 1048576 then 1048576 - ((n0 : Int) + n1 + n2) else -1
theorem szM_neg {n : Nat} {L : Int} (h : L < n) : szM n L = -1 := by simp [szM, h]
theorem szM_pos {n : Nat} {L : Int} (h : ¬ L < n) : szM n L = L - n := by simp [szM, h]

set_option maxHeartbeats 2000000 in
theorem szPool_any (A0 A1 A2 : Option Addr) (n0 c0 n1 c1 n2 c2 : Nat) (tn : Int) (st : Bool) (w : World) (h0 : n0 ≤ 9223372036854775807) (h1 : n1 ≤ 9223372036854775807) (h2 : n2 ≤ 9223372036854775807) :
    Calls Try.prog 30 #[.agg #[.slice A0 n0 c0, .slice A1 n1 c1, .slice A2 n2 c2, .int .i64 tn, .bool st], .int .i64 1048576] w fun r w' => r = .returned (.int .i64 (szPoolM n0 n1 n2)) ∧ Below w.heap.size w w' := by
  by_cases k0 : (1048576 : Int) < n0
  · rw [show szPoolM n0 n1 n2 = -1 from by simp [szPoolM]; omega]
    go_enter Try.func30, Try.ntmps30
    go_wp2_with fail
    go_call (szTaskS_any A0 n0 c0 1048576 _ h0 (by omega) (by omega)) as r w1 ⟨rfl, rfl⟩
    rw [szM_neg k0]
    go_wp2_with fail
    go_ret
    exact ⟨rfl, by go_grown⟩
  by_cases k1 : (1048576 : Int) - n0 < n1
  · rw [show szPoolM n0 n1 n2 = -1 from by simp [szPoolM]; omega]
    go_enter Try.func30, Try.ntmps30
    go_wp2_with fail
    go_call (szTaskS_any A0 n0 c0 1048576 _ h0 (by omega) (by omega)) as r w1 ⟨rfl, rfl⟩
    rw [szM_pos (n := n0) (L := 1048576) (by omega)]
    go_wp2_with fail
    go_call (szInt64S_any A1 n1 c1 (1048576 - n0) _ h1 (by omega) (by omega)) as r w1 ⟨rfl, rfl⟩
    rw [szM_neg k1]
    go_wp2_with fail
    go_ret
    exact ⟨rfl, by go_grown⟩
  by_cases k2 : (1048576 : Int) - n0 - n1 < n2
  · rw [show szPoolM n0 n1 n2 = -1 from by simp [szPoolM]; omega]
    go_enter Try.func30, Try.ntmps30
    go_wp2_with fail
    go_call (szTaskS_any A0 n0 c0 1048576 _ h0 (by omega) (by omega)) as r w1 ⟨rfl, rfl⟩
    rw [szM_pos (n := n0) (L := 1048576) (by omega)]
    go_wp2_with fail
    go_call (szInt64S_any A1 n1 c1 (1048576 - n0) _ h1 (by omega) (by omega)) as r w1 ⟨rfl, rfl⟩
    rw [szM_pos (n := n1) (L := 1048576 - n0) (by omega)]
    go_wp2_with fail
    go_call (szFutureS_any A2 n2 c2 (1048576 - n0 - n1) _ h2 (by omega) (by omega)) as r w1 ⟨rfl, rfl⟩
    rw [szM_neg k2]
    go_wp2_with fail
    go_ret
    exact ⟨rfl, by go_grown⟩
  rw [show szPoolM n0 n1 n2 = 1048576 - n0 - n1 - n2 from by simp [szPoolM]; omega]
  go_enter Try.func30, Try.ntmps30
  go_wp2_with fail
  go_call (szTaskS_any A0 n0 c0 1048576 _ h0 (by omega) (by omega)) as r w1 ⟨rfl, rfl⟩
  rw [szM_pos (n := n0) (L := 1048576) (by omega)]
  go_wp2_with fail
  go_call (szInt64S_any A1 n1 c1 (1048576 - n0) _ h1 (by omega) (by omega)) as r w1 ⟨rfl, rfl⟩
  rw [szM_pos (n := n1) (L := 1048576 - n0) (by omega)]
  go_wp2_with fail
  go_call (szFutureS_any A2 n2 c2 (1048576 - n0 - n1) _ h2 (by omega) (by omega)) as r w1 ⟨rfl, rfl⟩
  rw [szM_pos (n := n2) (L := 1048576 - n0 - n1) (by omega)]
  go_wp2_with fail
  go_ret
  exact ⟨rfl, by go_grown⟩

/-- A pool whose lists are rows of the call's own, between two marks. -/
def OwnPool (w : World) (lo hi : Nat) (ts : List T7) (ks : List Int) (fs : List F2) (A0 A1 A2 : Option Addr) (c0 c1 c2 : Nat) : Prop :=
  OwnR w lo hi 46 7 (.slice A0 ts.length c0) ts.length (tcells ts) ∧ OwnR w lo hi 2 1 (.slice A1 ks.length c1) ks.length (icells ks) ∧ OwnR w lo hi 90 2 (.slice A2 fs.length c2) fs.length (fcells fs)
/-- A pool that can be read. -/
def InPool (w : World) (ts : List T7) (ks : List Int) (fs : List F2) (A0 A1 A2 : Option Addr) : Prop := Row w A0 (tcells ts) ∧ Row w A1 (icells ks) ∧ Row w A2 (fcells fs)
section
variable {w w' : World} {lo hi : Nat} {ts : List T7} {ks : List Int} {fs : List F2} {A0 A1 A2 : Option Addr} {c0 c1 c2 : Nat}
theorem OwnPool.reads (h : OwnPool w lo hi ts ks fs A0 A1 A2 c0 c1 c2) : InPool w ts ks fs A0 A1 A2 := ⟨h.1.row, h.2.1.row, h.2.2.row⟩
theorem OwnPool.below (h : OwnPool w lo hi ts ks fs A0 A1 A2 c0 c1 c2) (hb : Below w.heap.size w w') : OwnPool w' lo hi ts ks fs A0 A1 A2 c0 c1 c2 := ⟨h.1.below hb, h.2.1.below hb, h.2.2.below hb⟩
theorem OwnPool.alloc (h : OwnPool w lo hi ts ks fs A0 A1 A2 c0 c1 c2) (o : Obj) : OwnPool (w.alloc o) lo hi ts ks fs A0 A1 A2 c0 c1 c2 := ⟨h.1.alloc o, h.2.1.alloc o, h.2.2.alloc o⟩
theorem OwnPool.wide {l2 h2 : Nat} (h : OwnPool w lo hi ts ks fs A0 A1 A2 c0 c1 c2) (hl : l2 ≤ lo) (hh : hi ≤ h2) : OwnPool w l2 h2 ts ks fs A0 A1 A2 c0 c1 c2 := ⟨h.1.wide hl hh, h.2.1.wide hl hh, h.2.2.wide hl hh⟩
theorem OwnPool.store (h : OwnPool w lo hi ts ks fs A0 A1 A2 c0 c1 c2) {p : Addr} (hp : p.block < lo ∨ hi ≤ p.block) (u : Value) : OwnPool (w.setCell p u) lo hi ts ks fs A0 A1 A2 c0 c1 c2 := ⟨h.1.store hp u, h.2.1.store hp u, h.2.2.store hp u⟩
theorem InPool.below (h : InPool w ts ks fs A0 A1 A2) (hb : Below w.heap.size w w') : InPool w' ts ks fs A0 A1 A2 := ⟨Row.below h.1 hb, Row.below h.2.1 hb, Row.below h.2.2 hb⟩
end

/-- What a function that makes a pool leaves. -/
def MadePool (w : World) (ts : List T7) (ks : List Int) (fs : List F2) (tn : Int) (st : Bool) (r : Ending) (w' : World) : Prop :=
  ∃ (A0 A1 A2 : Option Addr) (c0 c1 c2 : Nat), r = .returned (.agg #[.slice A0 ts.length c0, .slice A1 ks.length c1, .slice A2 fs.length c2, .int .i64 tn, .bool st]) ∧ OwnPool w' w.heap.size w'.heap.size ts ks fs A0 A1 A2 c0 c1 c2 ∧ Below w.heap.size w w'

set_option maxRecDepth 100000 in
set_option maxHeartbeats 2000000 in
theorem toPool_any (ts : List T7) (ks : List Int) (fs : List F2) (A0 A1 A2 : Option Addr) (c0 c1 c2 : Nat) (tn : Int) (st : Bool) (w : World) (hl : ts.length + ks.length + fs.length ≤ 1048576) (h : InPool w ts ks fs A0 A1 A2) :
    Calls Try.prog 33 #[.agg #[.slice A0 ts.length c0, .slice A1 ks.length c1, .slice A2 fs.length c2, .int .i64 tn, .bool st]] w (MadePool w ts ks fs tn st) := by
  have H := hide h
  clear h
  go_enter Try.func33, Try.ntmps33
  go_wp2_with fail
  have G := Below.refl w.heap.size w
  have kP := Blk.new w 55 #[.slice A0 ts.length c0, .slice A1 ks.length c1, .slice A2 fs.length c2, .int .i64 tn, .bool st]
  have hbs := G.size
  replace G := G.alloc (by omega) (.cells #[.slice A0 ts.length c0, .slice A1 ks.length c1, .slice A2 fs.length c2, .int .i64 tn, .bool st] 55)
  have z1 : (w.alloc (.cells #[.slice A0 ts.length c0, .slice A1 ks.length c1, .slice A2 fs.length c2, .int .i64 tn, .bool st] 55)).heap.size = w.heap.size + 1 := by simp
  clear hbs
  generalize w.alloc (.cells #[.slice A0 ts.length c0, .slice A1 ks.length c1, .slice A2 fs.length c2, .int .i64 tn, .bool st] 55) = W1 at kP G z1 ⊢
  have kR : Blk (W1.alloc (.cells #[.slice none 0 0, .slice none 0 0, .slice none 0 0, .int .i64 0, .bool false] 34)) (w.heap.size + 1) 34 #[.slice none 0 0, .slice none 0 0, .slice none 0 0, .int .i64 0, .bool false] := by
    have h := Blk.new W1 34 #[.slice none 0 0, .slice none 0 0, .slice none 0 0, .int .i64 0, .bool false]
    rw [show W1.heap.size = w.heap.size + 1 by omega] at h
    exact h
  replace kP := kP.alloc (.cells #[.slice none 0 0, .slice none 0 0, .slice none 0 0, .int .i64 0, .bool false] 34)
  have hbs := G.size
  replace G := G.alloc (by omega) (.cells #[.slice none 0 0, .slice none 0 0, .slice none 0 0, .int .i64 0, .bool false] 34)
  have z2 : (W1.alloc (.cells #[.slice none 0 0, .slice none 0 0, .slice none 0 0, .int .i64 0, .bool false] 34)).heap.size = W1.heap.size + 1 := by simp
  clear hbs
  generalize W1.alloc (.cells #[.slice none 0 0, .slice none 0 0, .slice none 0 0, .int .i64 0, .bool false] 34) = W2 at kP kR G z2 ⊢
  have kO : Blk (W2.alloc (.cells #[.slice none 0 0, .slice none 0 0, .slice none 0 0, .int .i64 0, .bool false] 34)) (w.heap.size + 2) 34 #[.slice none 0 0, .slice none 0 0, .slice none 0 0, .int .i64 0, .bool false] := by
    have h := Blk.new W2 34 #[.slice none 0 0, .slice none 0 0, .slice none 0 0, .int .i64 0, .bool false]
    rw [show W2.heap.size = w.heap.size + 2 by omega] at h
    exact h
  replace kP := kP.alloc (.cells #[.slice none 0 0, .slice none 0 0, .slice none 0 0, .int .i64 0, .bool false] 34)
  replace kR := kR.alloc (.cells #[.slice none 0 0, .slice none 0 0, .slice none 0 0, .int .i64 0, .bool false] 34)
  have hbs := G.size
  replace G := G.alloc (by omega) (.cells #[.slice none 0 0, .slice none 0 0, .slice none 0 0, .int .i64 0, .bool false] 34)
  have z3 : (W2.alloc (.cells #[.slice none 0 0, .slice none 0 0, .slice none 0 0, .int .i64 0, .bool false] 34)).heap.size = W2.heap.size + 1 := by simp
  clear hbs
  generalize W2.alloc (.cells #[.slice none 0 0, .slice none 0 0, .slice none 0 0, .int .i64 0, .bool false] 34) = W3 at kP kR kO G z3 ⊢
  go_call (toTaskS_any ts A0 c0 _ (by omega) ((H.out.1).below G)) as r W4 ⟨B0, rfl, own0, g1⟩
  have hbs := G.size
  replace kP := kP.below g1 kP.lt
  replace kR := kR.below g1 kR.lt
  replace kO := kO.below g1 kO.lt
  replace G := G.trans (g1.mono (by omega))
  have z4 := g1.size
  clear g1 hbs
  have ro0 := OwnR.of own0 (Nat.le_refl _)
  obtain ⟨tP, qP0, fP0, qP1, fP1, qP2, fP2, qP3, fP3, qP4, fP4⟩ := kP.f5
  obtain ⟨tR, qR0, fR0, qR1, fR1, qR2, fR2, qR3, fR3, qR4, fR4⟩ := kR.f5
  obtain ⟨tO, qO0, fO0, qO1, fO1, qO2, fO2, qO3, fO3, qO4, fO4⟩ := kO.f5
  go_wp2_with fail
  clear tP qP0 fP0 qP1 fP1 qP2 fP2 qP3 fP3 qP4 fP4 tR qR0 fR0 qR1 fR1 qR2 fR2 qR3 fR3 qR4 fR4 tO qO0 fO0 qO1 fO1 qO2 fO2 qO3 fO3 qO4 fO4
  replace kP := kP.far (p := ⟨w.heap.size + 2, 0, none⟩) (show w.heap.size ≠ w.heap.size + 2 by omega) (.slice B0 ts.length ts.length)
  replace kR := kR.far (p := ⟨w.heap.size + 2, 0, none⟩) (show w.heap.size + 1 ≠ w.heap.size + 2 by omega) (.slice B0 ts.length ts.length)
  replace kO : Blk (W4.setCell ⟨w.heap.size + 2, 0, none⟩ (.slice B0 ts.length ts.length)) (w.heap.size + 2) 34 #[.slice B0 ts.length ts.length, .slice none 0 0, .slice none 0 0, .int .i64 0, .bool false] := kO.set_ 0 (.slice B0 ts.length ts.length)
  replace ro0 := ro0.store (p := ⟨w.heap.size + 2, 0, none⟩) (show w.heap.size + 2 < W3.heap.size ∨ W4.heap.size ≤ w.heap.size + 2 by omega) (.slice B0 ts.length ts.length)
  replace G : Below w.heap.size w (W4.setCell ⟨w.heap.size + 2, 0, none⟩ (.slice B0 ts.length ts.length)) := Below.setCell G (show w.heap.size ≤ w.heap.size + 2 by omega) _
  have z5 : (W4.setCell ⟨w.heap.size + 2, 0, none⟩ (.slice B0 ts.length ts.length)).heap.size = W4.heap.size := by simp [World.setCell]
  generalize W4.setCell ⟨w.heap.size + 2, 0, none⟩ (.slice B0 ts.length ts.length) = W5 at kP kR kO ro0 G z5 ⊢
  obtain ⟨tP, qP0, fP0, qP1, fP1, qP2, fP2, qP3, fP3, qP4, fP4⟩ := kP.f5
  obtain ⟨tR, qR0, fR0, qR1, fR1, qR2, fR2, qR3, fR3, qR4, fR4⟩ := kR.f5
  obtain ⟨tO, qO0, fO0, qO1, fO1, qO2, fO2, qO3, fO3, qO4, fO4⟩ := kO.f5
  go_wp2_with fail
  go_call (toInt64S_any ks A1 c1 _ (by omega) ((H.out.2.1).below G)) as r W6 ⟨B1, rfl, own1, g1⟩
  clear tP qP0 fP0 qP1 fP1 qP2 fP2 qP3 fP3 qP4 fP4 tR qR0 fR0 qR1 fR1 qR2 fR2 qR3 fR3 qR4 fR4 tO qO0 fO0 qO1 fO1 qO2 fO2 qO3 fO3 qO4 fO4
  have hbs := G.size
  replace kP := kP.below g1 kP.lt
  replace kR := kR.below g1 kR.lt
  replace kO := kO.below g1 kO.lt
  replace ro0 := ro0.below g1
  replace G := G.trans (g1.mono (by omega))
  have z6 := g1.size
  clear g1 hbs
  have ro1 := OwnR.of own1 (Nat.le_refl _)
  obtain ⟨tP, qP0, fP0, qP1, fP1, qP2, fP2, qP3, fP3, qP4, fP4⟩ := kP.f5
  obtain ⟨tR, qR0, fR0, qR1, fR1, qR2, fR2, qR3, fR3, qR4, fR4⟩ := kR.f5
  obtain ⟨tO, qO0, fO0, qO1, fO1, qO2, fO2, qO3, fO3, qO4, fO4⟩ := kO.f5
  go_wp2_with fail
  clear tP qP0 fP0 qP1 fP1 qP2 fP2 qP3 fP3 qP4 fP4 tR qR0 fR0 qR1 fR1 qR2 fR2 qR3 fR3 qR4 fR4 tO qO0 fO0 qO1 fO1 qO2 fO2 qO3 fO3 qO4 fO4
  replace kP := kP.far (p := ⟨w.heap.size + 2, 1, none⟩) (show w.heap.size ≠ w.heap.size + 2 by omega) (.slice B1 ks.length ks.length)
  replace kR := kR.far (p := ⟨w.heap.size + 2, 1, none⟩) (show w.heap.size + 1 ≠ w.heap.size + 2 by omega) (.slice B1 ks.length ks.length)
  replace kO : Blk (W6.setCell ⟨w.heap.size + 2, 1, none⟩ (.slice B1 ks.length ks.length)) (w.heap.size + 2) 34 #[.slice B0 ts.length ts.length, .slice B1 ks.length ks.length, .slice none 0 0, .int .i64 0, .bool false] := kO.set_ 1 (.slice B1 ks.length ks.length)
  replace ro0 := ro0.store (p := ⟨w.heap.size + 2, 1, none⟩) (show w.heap.size + 2 < W3.heap.size ∨ W4.heap.size ≤ w.heap.size + 2 by omega) (.slice B1 ks.length ks.length)
  replace ro1 := ro1.store (p := ⟨w.heap.size + 2, 1, none⟩) (show w.heap.size + 2 < W5.heap.size ∨ W6.heap.size ≤ w.heap.size + 2 by omega) (.slice B1 ks.length ks.length)
  replace G : Below w.heap.size w (W6.setCell ⟨w.heap.size + 2, 1, none⟩ (.slice B1 ks.length ks.length)) := Below.setCell G (show w.heap.size ≤ w.heap.size + 2 by omega) _
  have z7 : (W6.setCell ⟨w.heap.size + 2, 1, none⟩ (.slice B1 ks.length ks.length)).heap.size = W6.heap.size := by simp [World.setCell]
  generalize W6.setCell ⟨w.heap.size + 2, 1, none⟩ (.slice B1 ks.length ks.length) = W7 at kP kR kO ro0 ro1 G z7 ⊢
  obtain ⟨tP, qP0, fP0, qP1, fP1, qP2, fP2, qP3, fP3, qP4, fP4⟩ := kP.f5
  obtain ⟨tR, qR0, fR0, qR1, fR1, qR2, fR2, qR3, fR3, qR4, fR4⟩ := kR.f5
  obtain ⟨tO, qO0, fO0, qO1, fO1, qO2, fO2, qO3, fO3, qO4, fO4⟩ := kO.f5
  go_wp2_with fail
  go_call (toFutureS_any fs A2 c2 _ (by omega) ((H.out.2.2).below G)) as r W8 ⟨B2, rfl, own2, g1⟩
  clear tP qP0 fP0 qP1 fP1 qP2 fP2 qP3 fP3 qP4 fP4 tR qR0 fR0 qR1 fR1 qR2 fR2 qR3 fR3 qR4 fR4 tO qO0 fO0 qO1 fO1 qO2 fO2 qO3 fO3 qO4 fO4
  have hbs := G.size
  replace kP := kP.below g1 kP.lt
  replace kR := kR.below g1 kR.lt
  replace kO := kO.below g1 kO.lt
  replace ro0 := ro0.below g1
  replace ro1 := ro1.below g1
  replace G := G.trans (g1.mono (by omega))
  have z8 := g1.size
  clear g1 hbs
  have ro2 := OwnR.of own2 (Nat.le_refl _)
  obtain ⟨tP, qP0, fP0, qP1, fP1, qP2, fP2, qP3, fP3, qP4, fP4⟩ := kP.f5
  obtain ⟨tR, qR0, fR0, qR1, fR1, qR2, fR2, qR3, fR3, qR4, fR4⟩ := kR.f5
  obtain ⟨tO, qO0, fO0, qO1, fO1, qO2, fO2, qO3, fO3, qO4, fO4⟩ := kO.f5
  go_wp2_with fail
  clear tP qP0 fP0 qP1 fP1 qP2 fP2 qP3 fP3 qP4 fP4 tR qR0 fR0 qR1 fR1 qR2 fR2 qR3 fR3 qR4 fR4 tO qO0 fO0 qO1 fO1 qO2 fO2 qO3 fO3 qO4 fO4
  replace kP := kP.far (p := ⟨w.heap.size + 2, 2, none⟩) (show w.heap.size ≠ w.heap.size + 2 by omega) (.slice B2 fs.length fs.length)
  replace kR := kR.far (p := ⟨w.heap.size + 2, 2, none⟩) (show w.heap.size + 1 ≠ w.heap.size + 2 by omega) (.slice B2 fs.length fs.length)
  replace kO : Blk (W8.setCell ⟨w.heap.size + 2, 2, none⟩ (.slice B2 fs.length fs.length)) (w.heap.size + 2) 34 #[.slice B0 ts.length ts.length, .slice B1 ks.length ks.length, .slice B2 fs.length fs.length, .int .i64 0, .bool false] := kO.set_ 2 (.slice B2 fs.length fs.length)
  replace ro0 := ro0.store (p := ⟨w.heap.size + 2, 2, none⟩) (show w.heap.size + 2 < W3.heap.size ∨ W4.heap.size ≤ w.heap.size + 2 by omega) (.slice B2 fs.length fs.length)
  replace ro1 := ro1.store (p := ⟨w.heap.size + 2, 2, none⟩) (show w.heap.size + 2 < W5.heap.size ∨ W6.heap.size ≤ w.heap.size + 2 by omega) (.slice B2 fs.length fs.length)
  replace ro2 := ro2.store (p := ⟨w.heap.size + 2, 2, none⟩) (show w.heap.size + 2 < W7.heap.size ∨ W8.heap.size ≤ w.heap.size + 2 by omega) (.slice B2 fs.length fs.length)
  replace G : Below w.heap.size w (W8.setCell ⟨w.heap.size + 2, 2, none⟩ (.slice B2 fs.length fs.length)) := Below.setCell G (show w.heap.size ≤ w.heap.size + 2 by omega) _
  have z9 : (W8.setCell ⟨w.heap.size + 2, 2, none⟩ (.slice B2 fs.length fs.length)).heap.size = W8.heap.size := by simp [World.setCell]
  generalize W8.setCell ⟨w.heap.size + 2, 2, none⟩ (.slice B2 fs.length fs.length) = W9 at kP kR kO ro0 ro1 ro2 G z9 ⊢
  obtain ⟨tP, qP0, fP0, qP1, fP1, qP2, fP2, qP3, fP3, qP4, fP4⟩ := kP.f5
  obtain ⟨tR, qR0, fR0, qR1, fR1, qR2, fR2, qR3, fR3, qR4, fR4⟩ := kR.f5
  obtain ⟨tO, qO0, fO0, qO1, fO1, qO2, fO2, qO3, fO3, qO4, fO4⟩ := kO.f5
  go_wp2_with fail
  clear tP qP0 fP0 qP1 fP1 qP2 fP2 qP3 fP3 qP4 fP4 tR qR0 fR0 qR1 fR1 qR2 fR2 qR3 fR3 qR4 fR4 tO qO0 fO0 qO1 fO1 qO2 fO2 qO3 fO3 qO4 fO4
  replace kP := kP.far (p := ⟨w.heap.size + 2, 3, none⟩) (show w.heap.size ≠ w.heap.size + 2 by omega) (.int .i64 tn)
  replace kR := kR.far (p := ⟨w.heap.size + 2, 3, none⟩) (show w.heap.size + 1 ≠ w.heap.size + 2 by omega) (.int .i64 tn)
  replace kO : Blk (W9.setCell ⟨w.heap.size + 2, 3, none⟩ (.int .i64 tn)) (w.heap.size + 2) 34 #[.slice B0 ts.length ts.length, .slice B1 ks.length ks.length, .slice B2 fs.length fs.length, .int .i64 tn, .bool false] := kO.set_ 3 (.int .i64 tn)
  replace ro0 := ro0.store (p := ⟨w.heap.size + 2, 3, none⟩) (show w.heap.size + 2 < W3.heap.size ∨ W4.heap.size ≤ w.heap.size + 2 by omega) (.int .i64 tn)
  replace ro1 := ro1.store (p := ⟨w.heap.size + 2, 3, none⟩) (show w.heap.size + 2 < W5.heap.size ∨ W6.heap.size ≤ w.heap.size + 2 by omega) (.int .i64 tn)
  replace ro2 := ro2.store (p := ⟨w.heap.size + 2, 3, none⟩) (show w.heap.size + 2 < W7.heap.size ∨ W8.heap.size ≤ w.heap.size + 2 by omega) (.int .i64 tn)
  replace G : Below w.heap.size w (W9.setCell ⟨w.heap.size + 2, 3, none⟩ (.int .i64 tn)) := Below.setCell G (show w.heap.size ≤ w.heap.size + 2 by omega) _
  have z10 : (W9.setCell ⟨w.heap.size + 2, 3, none⟩ (.int .i64 tn)).heap.size = W9.heap.size := by simp [World.setCell]
  generalize W9.setCell ⟨w.heap.size + 2, 3, none⟩ (.int .i64 tn) = W10 at kP kR kO ro0 ro1 ro2 G z10 ⊢
  obtain ⟨tP, qP0, fP0, qP1, fP1, qP2, fP2, qP3, fP3, qP4, fP4⟩ := kP.f5
  obtain ⟨tR, qR0, fR0, qR1, fR1, qR2, fR2, qR3, fR3, qR4, fR4⟩ := kR.f5
  obtain ⟨tO, qO0, fO0, qO1, fO1, qO2, fO2, qO3, fO3, qO4, fO4⟩ := kO.f5
  go_wp2_with fail
  clear tP qP0 fP0 qP1 fP1 qP2 fP2 qP3 fP3 qP4 fP4 tR qR0 fR0 qR1 fR1 qR2 fR2 qR3 fR3 qR4 fR4 tO qO0 fO0 qO1 fO1 qO2 fO2 qO3 fO3 qO4 fO4
  replace kP := kP.far (p := ⟨w.heap.size + 2, 4, none⟩) (show w.heap.size ≠ w.heap.size + 2 by omega) (.bool st)
  replace kR := kR.far (p := ⟨w.heap.size + 2, 4, none⟩) (show w.heap.size + 1 ≠ w.heap.size + 2 by omega) (.bool st)
  replace kO : Blk (W10.setCell ⟨w.heap.size + 2, 4, none⟩ (.bool st)) (w.heap.size + 2) 34 #[.slice B0 ts.length ts.length, .slice B1 ks.length ks.length, .slice B2 fs.length fs.length, .int .i64 tn, .bool st] := kO.set_ 4 (.bool st)
  replace ro0 := ro0.store (p := ⟨w.heap.size + 2, 4, none⟩) (show w.heap.size + 2 < W3.heap.size ∨ W4.heap.size ≤ w.heap.size + 2 by omega) (.bool st)
  replace ro1 := ro1.store (p := ⟨w.heap.size + 2, 4, none⟩) (show w.heap.size + 2 < W5.heap.size ∨ W6.heap.size ≤ w.heap.size + 2 by omega) (.bool st)
  replace ro2 := ro2.store (p := ⟨w.heap.size + 2, 4, none⟩) (show w.heap.size + 2 < W7.heap.size ∨ W8.heap.size ≤ w.heap.size + 2 by omega) (.bool st)
  replace G : Below w.heap.size w (W10.setCell ⟨w.heap.size + 2, 4, none⟩ (.bool st)) := Below.setCell G (show w.heap.size ≤ w.heap.size + 2 by omega) _
  have z11 : (W10.setCell ⟨w.heap.size + 2, 4, none⟩ (.bool st)).heap.size = W10.heap.size := by simp [World.setCell]
  generalize W10.setCell ⟨w.heap.size + 2, 4, none⟩ (.bool st) = W11 at kP kR kO ro0 ro1 ro2 G z11 ⊢
  obtain ⟨tP, qP0, fP0, qP1, fP1, qP2, fP2, qP3, fP3, qP4, fP4⟩ := kP.f5
  obtain ⟨tR, qR0, fR0, qR1, fR1, qR2, fR2, qR3, fR3, qR4, fR4⟩ := kR.f5
  obtain ⟨tO, qO0, fO0, qO1, fO1, qO2, fO2, qO3, fO3, qO4, fO4⟩ := kO.f5
  go_wp2_with fail
  clear tP qP0 fP0 qP1 fP1 qP2 fP2 qP3 fP3 qP4 fP4 tR qR0 fR0 qR1 fR1 qR2 fR2 qR3 fR3 qR4 fR4 tO qO0 fO0 qO1 fO1 qO2 fO2 qO3 fO3 qO4 fO4
  replace kP := kP.far (p := ⟨w.heap.size + 1, 0, none⟩) (show w.heap.size ≠ w.heap.size + 1 by omega) (.slice B0 ts.length ts.length)
  replace kO := kO.far (p := ⟨w.heap.size + 1, 0, none⟩) (show w.heap.size + 2 ≠ w.heap.size + 1 by omega) (.slice B0 ts.length ts.length)
  replace kR : Blk (W11.setCell ⟨w.heap.size + 1, 0, none⟩ (.slice B0 ts.length ts.length)) (w.heap.size + 1) 34 #[.slice B0 ts.length ts.length, .slice none 0 0, .slice none 0 0, .int .i64 0, .bool false] := kR.set_ 0 (.slice B0 ts.length ts.length)
  replace ro0 := ro0.store (p := ⟨w.heap.size + 1, 0, none⟩) (show w.heap.size + 1 < W3.heap.size ∨ W4.heap.size ≤ w.heap.size + 1 by omega) (.slice B0 ts.length ts.length)
  replace ro1 := ro1.store (p := ⟨w.heap.size + 1, 0, none⟩) (show w.heap.size + 1 < W5.heap.size ∨ W6.heap.size ≤ w.heap.size + 1 by omega) (.slice B0 ts.length ts.length)
  replace ro2 := ro2.store (p := ⟨w.heap.size + 1, 0, none⟩) (show w.heap.size + 1 < W7.heap.size ∨ W8.heap.size ≤ w.heap.size + 1 by omega) (.slice B0 ts.length ts.length)
  replace G : Below w.heap.size w (W11.setCell ⟨w.heap.size + 1, 0, none⟩ (.slice B0 ts.length ts.length)) := Below.setCell G (show w.heap.size ≤ w.heap.size + 1 by omega) _
  have z12 : (W11.setCell ⟨w.heap.size + 1, 0, none⟩ (.slice B0 ts.length ts.length)).heap.size = W11.heap.size := by simp [World.setCell]
  generalize W11.setCell ⟨w.heap.size + 1, 0, none⟩ (.slice B0 ts.length ts.length) = W12 at kP kR kO ro0 ro1 ro2 G z12 ⊢
  replace kP := kP.far (p := ⟨w.heap.size + 1, 1, none⟩) (show w.heap.size ≠ w.heap.size + 1 by omega) (.slice B1 ks.length ks.length)
  replace kO := kO.far (p := ⟨w.heap.size + 1, 1, none⟩) (show w.heap.size + 2 ≠ w.heap.size + 1 by omega) (.slice B1 ks.length ks.length)
  replace kR : Blk (W12.setCell ⟨w.heap.size + 1, 1, none⟩ (.slice B1 ks.length ks.length)) (w.heap.size + 1) 34 #[.slice B0 ts.length ts.length, .slice B1 ks.length ks.length, .slice none 0 0, .int .i64 0, .bool false] := kR.set_ 1 (.slice B1 ks.length ks.length)
  replace ro0 := ro0.store (p := ⟨w.heap.size + 1, 1, none⟩) (show w.heap.size + 1 < W3.heap.size ∨ W4.heap.size ≤ w.heap.size + 1 by omega) (.slice B1 ks.length ks.length)
  replace ro1 := ro1.store (p := ⟨w.heap.size + 1, 1, none⟩) (show w.heap.size + 1 < W5.heap.size ∨ W6.heap.size ≤ w.heap.size + 1 by omega) (.slice B1 ks.length ks.length)
  replace ro2 := ro2.store (p := ⟨w.heap.size + 1, 1, none⟩) (show w.heap.size + 1 < W7.heap.size ∨ W8.heap.size ≤ w.heap.size + 1 by omega) (.slice B1 ks.length ks.length)
  replace G : Below w.heap.size w (W12.setCell ⟨w.heap.size + 1, 1, none⟩ (.slice B1 ks.length ks.length)) := Below.setCell G (show w.heap.size ≤ w.heap.size + 1 by omega) _
  have z13 : (W12.setCell ⟨w.heap.size + 1, 1, none⟩ (.slice B1 ks.length ks.length)).heap.size = W12.heap.size := by simp [World.setCell]
  generalize W12.setCell ⟨w.heap.size + 1, 1, none⟩ (.slice B1 ks.length ks.length) = W13 at kP kR kO ro0 ro1 ro2 G z13 ⊢
  replace kP := kP.far (p := ⟨w.heap.size + 1, 2, none⟩) (show w.heap.size ≠ w.heap.size + 1 by omega) (.slice B2 fs.length fs.length)
  replace kO := kO.far (p := ⟨w.heap.size + 1, 2, none⟩) (show w.heap.size + 2 ≠ w.heap.size + 1 by omega) (.slice B2 fs.length fs.length)
  replace kR : Blk (W13.setCell ⟨w.heap.size + 1, 2, none⟩ (.slice B2 fs.length fs.length)) (w.heap.size + 1) 34 #[.slice B0 ts.length ts.length, .slice B1 ks.length ks.length, .slice B2 fs.length fs.length, .int .i64 0, .bool false] := kR.set_ 2 (.slice B2 fs.length fs.length)
  replace ro0 := ro0.store (p := ⟨w.heap.size + 1, 2, none⟩) (show w.heap.size + 1 < W3.heap.size ∨ W4.heap.size ≤ w.heap.size + 1 by omega) (.slice B2 fs.length fs.length)
  replace ro1 := ro1.store (p := ⟨w.heap.size + 1, 2, none⟩) (show w.heap.size + 1 < W5.heap.size ∨ W6.heap.size ≤ w.heap.size + 1 by omega) (.slice B2 fs.length fs.length)
  replace ro2 := ro2.store (p := ⟨w.heap.size + 1, 2, none⟩) (show w.heap.size + 1 < W7.heap.size ∨ W8.heap.size ≤ w.heap.size + 1 by omega) (.slice B2 fs.length fs.length)
  replace G : Below w.heap.size w (W13.setCell ⟨w.heap.size + 1, 2, none⟩ (.slice B2 fs.length fs.length)) := Below.setCell G (show w.heap.size ≤ w.heap.size + 1 by omega) _
  have z14 : (W13.setCell ⟨w.heap.size + 1, 2, none⟩ (.slice B2 fs.length fs.length)).heap.size = W13.heap.size := by simp [World.setCell]
  generalize W13.setCell ⟨w.heap.size + 1, 2, none⟩ (.slice B2 fs.length fs.length) = W14 at kP kR kO ro0 ro1 ro2 G z14 ⊢
  replace kP := kP.far (p := ⟨w.heap.size + 1, 3, none⟩) (show w.heap.size ≠ w.heap.size + 1 by omega) (.int .i64 tn)
  replace kO := kO.far (p := ⟨w.heap.size + 1, 3, none⟩) (show w.heap.size + 2 ≠ w.heap.size + 1 by omega) (.int .i64 tn)
  replace kR : Blk (W14.setCell ⟨w.heap.size + 1, 3, none⟩ (.int .i64 tn)) (w.heap.size + 1) 34 #[.slice B0 ts.length ts.length, .slice B1 ks.length ks.length, .slice B2 fs.length fs.length, .int .i64 tn, .bool false] := kR.set_ 3 (.int .i64 tn)
  replace ro0 := ro0.store (p := ⟨w.heap.size + 1, 3, none⟩) (show w.heap.size + 1 < W3.heap.size ∨ W4.heap.size ≤ w.heap.size + 1 by omega) (.int .i64 tn)
  replace ro1 := ro1.store (p := ⟨w.heap.size + 1, 3, none⟩) (show w.heap.size + 1 < W5.heap.size ∨ W6.heap.size ≤ w.heap.size + 1 by omega) (.int .i64 tn)
  replace ro2 := ro2.store (p := ⟨w.heap.size + 1, 3, none⟩) (show w.heap.size + 1 < W7.heap.size ∨ W8.heap.size ≤ w.heap.size + 1 by omega) (.int .i64 tn)
  replace G : Below w.heap.size w (W14.setCell ⟨w.heap.size + 1, 3, none⟩ (.int .i64 tn)) := Below.setCell G (show w.heap.size ≤ w.heap.size + 1 by omega) _
  have z15 : (W14.setCell ⟨w.heap.size + 1, 3, none⟩ (.int .i64 tn)).heap.size = W14.heap.size := by simp [World.setCell]
  generalize W14.setCell ⟨w.heap.size + 1, 3, none⟩ (.int .i64 tn) = W15 at kP kR kO ro0 ro1 ro2 G z15 ⊢
  replace kP := kP.far (p := ⟨w.heap.size + 1, 4, none⟩) (show w.heap.size ≠ w.heap.size + 1 by omega) (.bool st)
  replace kO := kO.far (p := ⟨w.heap.size + 1, 4, none⟩) (show w.heap.size + 2 ≠ w.heap.size + 1 by omega) (.bool st)
  replace kR : Blk (W15.setCell ⟨w.heap.size + 1, 4, none⟩ (.bool st)) (w.heap.size + 1) 34 #[.slice B0 ts.length ts.length, .slice B1 ks.length ks.length, .slice B2 fs.length fs.length, .int .i64 tn, .bool st] := kR.set_ 4 (.bool st)
  replace ro0 := ro0.store (p := ⟨w.heap.size + 1, 4, none⟩) (show w.heap.size + 1 < W3.heap.size ∨ W4.heap.size ≤ w.heap.size + 1 by omega) (.bool st)
  replace ro1 := ro1.store (p := ⟨w.heap.size + 1, 4, none⟩) (show w.heap.size + 1 < W5.heap.size ∨ W6.heap.size ≤ w.heap.size + 1 by omega) (.bool st)
  replace ro2 := ro2.store (p := ⟨w.heap.size + 1, 4, none⟩) (show w.heap.size + 1 < W7.heap.size ∨ W8.heap.size ≤ w.heap.size + 1 by omega) (.bool st)
  replace G : Below w.heap.size w (W15.setCell ⟨w.heap.size + 1, 4, none⟩ (.bool st)) := Below.setCell G (show w.heap.size ≤ w.heap.size + 1 by omega) _
  have z16 : (W15.setCell ⟨w.heap.size + 1, 4, none⟩ (.bool st)).heap.size = W15.heap.size := by simp [World.setCell]
  generalize W15.setCell ⟨w.heap.size + 1, 4, none⟩ (.bool st) = W16 at kP kR kO ro0 ro1 ro2 G z16 ⊢
  obtain ⟨tR, qR0, qR1, qR2, qR3, qR4⟩ := kR.q5
  exact bodyPost_ret (v := .agg #[.slice B0 ts.length ts.length, .slice B1 ks.length ks.length, .slice B2 fs.length fs.length, .int .i64 tn, .bool st]) (by simp [results, Try.results33, go_sem, qR0, qR1, qR2, qR3, qR4]) rfl ⟨B0, B1, B2, _, _, _, rfl, ⟨ro0.wide (by omega) (by omega), ro1.wide (by omega) (by omega), ro2.wide (by omega) (by omega)⟩, G⟩

set_option maxHeartbeats 1000000 in
theorem eqFuture_same (s : Bool) (v : Int) (w : World) :
    Calls Try.prog 127 #[.agg #[.bool s, .int .i64 v], .agg #[.bool s, .int .i64 v]] w fun r w' => r = .returned (.bool true) ∧ Below w.heap.size w w' := by
  go_enter Try.func127, Try.ntmps127
  go_wp2
  go_ret
  exact ⟨rfl, by go_grown⟩

set_option maxRecDepth 100000 in
set_option maxHeartbeats 1000000 in
theorem eqTaskS_same (ts : List T7) (A B : Option Addr) (c d : Nat) (w : World) (hlen : ts.length ≤ 1048576) (h0 : Row w A (tcells ts)) (h1 : Row w B (tcells ts)) :
    Calls Try.prog 80 #[.slice A ts.length c, .slice B ts.length d] w fun r w' => r = .returned (.bool true) ∧ Below w.heap.size w w' := by
  have H0 := hide h0
  have H1 := hide h1
  clear h0 h1
  go_enter Try.func80, Try.ntmps80
  go_wp2
  go_loopw [5] (fun i wr => ∃ (k : Nat), k ≤ ts.length ∧ i = .int .i64 k ∧ Below w.heap.size w wr) (fun i _ => ts.length - (intOf i).toNat)
  case atStart => exact ⟨0, Nat.zero_le _, rfl, by go_grown⟩
  case round =>
    obtain ⟨k, hk, rfl, hbel⟩ := hrel
    have hz := hbel.size
    by_cases hlt : k < ts.length
    · obtain ⟨b, off, s, l, o, wt, on, v, t, rfl, _, hx, hb1, z0, z1, z2, z3, z4, z5, z6⟩ := (H0.out.below hbel).ts_at hlt
      obtain ⟨b2, off2, s', l', o', wt', on', v', t', rfl, _, hx2, hb2, y0, y1, y2, y3, y4, y5, y6⟩ := (H1.out.below hbel).ts_at hlt
      rw [hx] at hx2
      injection hx2 with hx2
      injection hx2 with u0 u1 u2 u3 u4 u5 u6
      subst u0 u1 u2 u3 u4 u5 u6
      clear hx
      have c0 := KeptW.cell (W0 := wr) (b := b) (o := off + k * 7) (z0)
      have e0 := KeptW.cell (W0 := wr) (b := b2) (o := off2 + k * 7) (y0)
      have c1 := KeptW.cell (W0 := wr) (b := b) (o := off + k * 7 + 1) (z1)
      have e1 := KeptW.cell (W0 := wr) (b := b2) (o := off2 + k * 7 + 1) (y1)
      have c2 := KeptW.cell (W0 := wr) (b := b) (o := off + k * 7 + 2) (z2)
      have e2 := KeptW.cell (W0 := wr) (b := b2) (o := off2 + k * 7 + 2) (y2)
      have c3 := KeptW.cell (W0 := wr) (b := b) (o := off + k * 7 + 3) (z3)
      have e3 := KeptW.cell (W0 := wr) (b := b2) (o := off2 + k * 7 + 3) (y3)
      have c4 := KeptW.cell (W0 := wr) (b := b) (o := off + k * 7 + 4) (z4)
      have e4 := KeptW.cell (W0 := wr) (b := b2) (o := off2 + k * 7 + 4) (y4)
      have c5 := KeptW.cell (W0 := wr) (b := b) (o := off + k * 7 + 5) (z5)
      have e5 := KeptW.cell (W0 := wr) (b := b2) (o := off2 + k * 7 + 5) (y5)
      have c6 := KeptW.cell (W0 := wr) (b := b) (o := off + k * 7 + 6) (z6)
      have e6 := KeptW.cell (W0 := wr) (b := b2) (o := off2 + k * 7 + 6) (y6)
      clear z0 y0 z1 y1 z2 y2 z3 y3 z4 y4 z5 y5 z6 y6
      go_wp2_with fail
      have hx0 := KeptW.mk'_w (Below.refl wr.heap.size wr)
      generalize KeptW.mk' (Below.refl wr.heap.size wr) = x at hx0
      rw [← hx0]
      clear hx0
      refine region_kept (by kernel_rfl) (by kernel_rfl) ?_
      repeat (go_big_quiet_step (first | (go_at_call 126; with_reducible exact (kept_call (eqTask_same s l o wt on v t _)))))
      refine wpQuiet_nil ?_
      rintro _ ⟨x, rfl⟩
      have hgx := hbel.trans (x.below.mono hz)
      go_wp2
      go_roundw
      case rel => exact ⟨k + 1, by omega, by go_num, hgx⟩
      case measure => simp [intOf]; omega
    · go_wp2
      go_ret
      exact ⟨rfl, hbel⟩

set_option maxRecDepth 100000 in
set_option maxHeartbeats 1000000 in
theorem eqInt64S_same (ks : List Int) (A B : Option Addr) (c d : Nat) (w : World) (hlen : ks.length ≤ 1048576) (h0 : Row w A (icells ks)) (h1 : Row w B (icells ks)) :
    Calls Try.prog 81 #[.slice A ks.length c, .slice B ks.length d] w fun r w' => r = .returned (.bool true) ∧ Below w.heap.size w w' := by
  have H0 := hide h0
  have H1 := hide h1
  clear h0 h1
  go_enter Try.func81, Try.ntmps81
  go_wp2
  go_loopw [5] (fun i wr => ∃ (k : Nat), k ≤ ks.length ∧ i = .int .i64 k ∧ Below w.heap.size w wr) (fun i _ => ks.length - (intOf i).toNat)
  case atStart => exact ⟨0, Nat.zero_le _, rfl, by go_grown⟩
  case round =>
    obtain ⟨k, hk, rfl, hbel⟩ := hrel
    have hz := hbel.size
    by_cases hlt : k < ks.length
    · obtain ⟨b, off, v, rfl, _, hx, hb1, z0⟩ := (H0.out.below hbel).ks_at hlt
      obtain ⟨b2, off2, v', rfl, _, hx2, hb2, y0⟩ := (H1.out.below hbel).ks_at hlt
      rw [hx] at hx2
      injection hx2 with hx2
      
      subst hx2
      clear hx
      have c0 := KeptW.cell (W0 := wr) (b := b) (o := off + k) (z0)
      have e0 := KeptW.cell (W0 := wr) (b := b2) (o := off2 + k) (y0)
      clear z0 y0
      go_wp2_with fail
      have hx0 := KeptW.mk'_w (Below.refl wr.heap.size wr)
      generalize KeptW.mk' (Below.refl wr.heap.size wr) = x at hx0
      rw [← hx0]
      clear hx0
      refine region_kept (by kernel_rfl) (by kernel_rfl) ?_
      repeat (go_big_quiet_step (fail))
      refine wpQuiet_nil ?_
      rintro _ ⟨x, rfl⟩
      have hgx := hbel.trans (x.below.mono hz)
      go_wp2
      go_roundw
      case rel => exact ⟨k + 1, by omega, by go_num, hgx⟩
      case measure => simp [intOf]; omega
    · go_wp2
      go_ret
      exact ⟨rfl, hbel⟩

set_option maxRecDepth 100000 in
set_option maxHeartbeats 1000000 in
theorem eqFutureS_same (fs : List F2) (A B : Option Addr) (c d : Nat) (w : World) (hlen : fs.length ≤ 1048576) (h0 : Row w A (fcells fs)) (h1 : Row w B (fcells fs)) :
    Calls Try.prog 82 #[.slice A fs.length c, .slice B fs.length d] w fun r w' => r = .returned (.bool true) ∧ Below w.heap.size w w' := by
  have H0 := hide h0
  have H1 := hide h1
  clear h0 h1
  go_enter Try.func82, Try.ntmps82
  go_wp2
  go_loopw [5] (fun i wr => ∃ (k : Nat), k ≤ fs.length ∧ i = .int .i64 k ∧ Below w.heap.size w wr) (fun i _ => fs.length - (intOf i).toNat)
  case atStart => exact ⟨0, Nat.zero_le _, rfl, by go_grown⟩
  case round =>
    obtain ⟨k, hk, rfl, hbel⟩ := hrel
    have hz := hbel.size
    by_cases hlt : k < fs.length
    · obtain ⟨b, off, s, v, rfl, _, hx, hb1, z0, z1⟩ := (H0.out.below hbel).fs_at hlt
      obtain ⟨b2, off2, s', v', rfl, _, hx2, hb2, y0, y1⟩ := (H1.out.below hbel).fs_at hlt
      rw [hx] at hx2
      injection hx2 with hx2
      injection hx2 with u0 u1
      subst u0 u1
      clear hx
      have c0 := KeptW.cell (W0 := wr) (b := b) (o := off + k * 2) (z0)
      have e0 := KeptW.cell (W0 := wr) (b := b2) (o := off2 + k * 2) (y0)
      have c1 := KeptW.cell (W0 := wr) (b := b) (o := off + k * 2 + 1) (z1)
      have e1 := KeptW.cell (W0 := wr) (b := b2) (o := off2 + k * 2 + 1) (y1)
      clear z0 y0 z1 y1
      go_wp2_with fail
      have hx0 := KeptW.mk'_w (Below.refl wr.heap.size wr)
      generalize KeptW.mk' (Below.refl wr.heap.size wr) = x at hx0
      rw [← hx0]
      clear hx0
      refine region_kept (by kernel_rfl) (by kernel_rfl) ?_
      repeat (go_big_quiet_step (first | (go_at_call 127; with_reducible exact (kept_call (eqFuture_same s v _)))))
      refine wpQuiet_nil ?_
      rintro _ ⟨x, rfl⟩
      have hgx := hbel.trans (x.below.mono hz)
      go_wp2
      go_roundw
      case rel => exact ⟨k + 1, by omega, by go_num, hgx⟩
      case measure => simp [intOf]; omega
    · go_wp2
      go_ret
      exact ⟨rfl, hbel⟩

set_option maxRecDepth 100000 in
set_option maxHeartbeats 2000000 in
theorem eqPool_same (ts : List T7) (ks : List Int) (fs : List F2) (A0 A1 A2 : Option Addr) (c0 c1 c2 : Nat) (tn : Int) (st : Bool) (B0 B1 B2 : Option Addr) (d0 d1 d2 : Nat) (w : World) (hl : ts.length + ks.length + fs.length ≤ 1048576) (h : InPool w ts ks fs A0 A1 A2) (k : InPool w ts ks fs B0 B1 B2) :
    Calls Try.prog 35 #[.agg #[.slice A0 ts.length c0, .slice A1 ks.length c1, .slice A2 fs.length c2, .int .i64 tn, .bool st], .agg #[.slice B0 ts.length d0, .slice B1 ks.length d1, .slice B2 fs.length d2, .int .i64 tn, .bool st]] w fun r w' => r = .returned (.bool true) ∧ Below w.heap.size w w' := by
  have H := hide h
  have K := hide k
  clear h k
  go_enter Try.func35, Try.ntmps35
  go_wp2_with fail
  have G := Below.refl w.heap.size w
  have kP := Blk.new w 34 #[.slice A0 ts.length c0, .slice A1 ks.length c1, .slice A2 fs.length c2, .int .i64 tn, .bool st]
  have hbs := G.size
  replace G := G.alloc (by omega) (.cells #[.slice A0 ts.length c0, .slice A1 ks.length c1, .slice A2 fs.length c2, .int .i64 tn, .bool st] 34)
  have z1 : (w.alloc (.cells #[.slice A0 ts.length c0, .slice A1 ks.length c1, .slice A2 fs.length c2, .int .i64 tn, .bool st] 34)).heap.size = w.heap.size + 1 := by simp
  clear hbs
  generalize w.alloc (.cells #[.slice A0 ts.length c0, .slice A1 ks.length c1, .slice A2 fs.length c2, .int .i64 tn, .bool st] 34) = W1 at kP G z1 ⊢
  have kQ : Blk (W1.alloc (.cells #[.slice B0 ts.length d0, .slice B1 ks.length d1, .slice B2 fs.length d2, .int .i64 tn, .bool st] 34)) (w.heap.size + 1) 34 #[.slice B0 ts.length d0, .slice B1 ks.length d1, .slice B2 fs.length d2, .int .i64 tn, .bool st] := by
    have h := Blk.new W1 34 #[.slice B0 ts.length d0, .slice B1 ks.length d1, .slice B2 fs.length d2, .int .i64 tn, .bool st]
    rw [show W1.heap.size = w.heap.size + 1 by omega] at h
    exact h
  replace kP := kP.alloc (.cells #[.slice B0 ts.length d0, .slice B1 ks.length d1, .slice B2 fs.length d2, .int .i64 tn, .bool st] 34)
  have hbs := G.size
  replace G := G.alloc (by omega) (.cells #[.slice B0 ts.length d0, .slice B1 ks.length d1, .slice B2 fs.length d2, .int .i64 tn, .bool st] 34)
  have z2 : (W1.alloc (.cells #[.slice B0 ts.length d0, .slice B1 ks.length d1, .slice B2 fs.length d2, .int .i64 tn, .bool st] 34)).heap.size = W1.heap.size + 1 := by simp
  clear hbs
  generalize W1.alloc (.cells #[.slice B0 ts.length d0, .slice B1 ks.length d1, .slice B2 fs.length d2, .int .i64 tn, .bool st] 34) = W2 at kP kQ G z2 ⊢
  go_call (eqTaskS_same ts A0 B0 c0 d0 _ (by omega) (H.out.1.below G) (K.out.1.below G)) as r W3 ⟨rfl, g1⟩
  have hbs := G.size
  replace kP := kP.below g1 kP.lt
  replace kQ := kQ.below g1 kQ.lt
  replace G := G.trans (g1.mono (by omega))
  have z3 := g1.size
  clear g1 hbs
  obtain ⟨tP, qP0, fP0, qP1, fP1, qP2, fP2, qP3, fP3, qP4, fP4⟩ := kP.f5
  obtain ⟨tQ, qQ0, fQ0, qQ1, fQ1, qQ2, fQ2, qQ3, fQ3, qQ4, fQ4⟩ := kQ.f5
  go_wp2_with fail
  go_call (eqInt64S_same ks A1 B1 c1 d1 _ (by omega) (H.out.2.1.below G) (K.out.2.1.below G)) as r W4 ⟨rfl, g1⟩
  clear tP qP0 fP0 qP1 fP1 qP2 fP2 qP3 fP3 qP4 fP4 tQ qQ0 fQ0 qQ1 fQ1 qQ2 fQ2 qQ3 fQ3 qQ4 fQ4
  have hbs := G.size
  replace kP := kP.below g1 kP.lt
  replace kQ := kQ.below g1 kQ.lt
  replace G := G.trans (g1.mono (by omega))
  have z4 := g1.size
  clear g1 hbs
  obtain ⟨tP, qP0, fP0, qP1, fP1, qP2, fP2, qP3, fP3, qP4, fP4⟩ := kP.f5
  obtain ⟨tQ, qQ0, fQ0, qQ1, fQ1, qQ2, fQ2, qQ3, fQ3, qQ4, fQ4⟩ := kQ.f5
  go_wp2_with fail
  go_call (eqFutureS_same fs A2 B2 c2 d2 _ (by omega) (H.out.2.2.below G) (K.out.2.2.below G)) as r W5 ⟨rfl, g1⟩
  clear tP qP0 fP0 qP1 fP1 qP2 fP2 qP3 fP3 qP4 fP4 tQ qQ0 fQ0 qQ1 fQ1 qQ2 fQ2 qQ3 fQ3 qQ4 fQ4
  have hbs := G.size
  replace kP := kP.below g1 kP.lt
  replace kQ := kQ.below g1 kQ.lt
  replace G := G.trans (g1.mono (by omega))
  have z5 := g1.size
  clear g1 hbs
  obtain ⟨tP, qP0, fP0, qP1, fP1, qP2, fP2, qP3, fP3, qP4, fP4⟩ := kP.f5
  obtain ⟨tQ, qQ0, fQ0, qQ1, fQ1, qQ2, fQ2, qQ3, fQ3, qQ4, fQ4⟩ := kQ.f5
  go_wp2_with fail
  go_ret
  exact ⟨rfl, G⟩
end Go.Proofs.Ytgncjcnobojgbaa

namespace Go.Proofs.Ytgncjcnobojgbaa
open Go.RowKit
set_option linter.unusedVariables false

/-- Two rows of elements of different types are two blocks. -/
theorem own_ne_own {w : World} {b1 b2 : Nat} {e1 e2 : TypeId} {s1 s2 n1 n2 : Nat} {v1 v2 : Value} {x1 x2 : List Value} (h1 : w.ownsRow b1 e1 s1 v1 n1 x1) (h2 : w.ownsRow b2 e2 s2 v2 n2 x2) (hne : e1 ≠ e2) : v1.ownBlock = none ∨ v1.ownBlock ≠ v2.ownBlock := by
  rcases h1.2 with ⟨rfl, _⟩ | ⟨g1, c1, u1, rfl, _, k1, _⟩
  · exact .inl rfl
  · rcases h2.2 with ⟨rfl, _⟩ | ⟨g2, c2, u2, rfl, _, k2, _⟩
    · exact .inr (by simp [Value.ownBlock])
    · refine .inr fun e => ?_
      have e' : g1 = g2 := by simpa [Value.ownBlock] using e
      subst e'
      exact Blk.ne_ (t := e1) (t' := e2) k1 k2 hne rfl
theorem OwnR.grown {w w' : World} {lo hi : Nat} {e : TypeId} {size n : Nat} {v : Value} {xs : List Value} {row : Option Nat} (h : OwnR w lo hi e size v n xs) (hg : w.grownBy w' row) (hne : v.ownBlock = none ∨ v.ownBlock ≠ row) : OwnR w' lo hi e size v n xs := ⟨h.1.kept hg hne, h.2⟩
/-- All blocks but those between two marks are as they were. -/
def Within (lo hi : Nat) (w w' : World) : Prop := w'.os = w.os ∧ w'.tape = w.tape ∧ w'.output = w.output ∧ w.heap.size ≤ w'.heap.size ∧ ∀ b, b < w.heap.size → (b < lo ∨ hi ≤ b) → w'.heap[b]? = w.heap[b]?
section
variable {lo hi B : Nat} {w w' w2 : World}
theorem Within.of_grown {row : Option Nat} (h : w.grownBy w' row) (hr : ∀ g, row = some g → lo ≤ g ∧ g < hi) : Within lo hi w w' := ⟨h.os, h.tape, h.output, h.size, fun b hb ho => h.block b hb (by intro e; have := hr b e.symm; omega)⟩
theorem Within.refl (lo hi : Nat) (w : World) : Within lo hi w w := ⟨rfl, rfl, rfl, Nat.le_refl _, fun _ _ _ => rfl⟩
theorem Within.size (h : Within lo hi w w') : w.heap.size ≤ w'.heap.size := h.2.2.2.1
theorem Within.alloc (h : Within lo hi w w') (_ : w.heap.size ≤ w'.heap.size) (o : Obj) : Within lo hi w (w'.alloc o) :=
  ⟨h.1, h.2.1, h.2.2.1, Nat.le_trans h.2.2.2.1 (by simp), fun b hb ho => (Below.heap_alloc w' o b (Nat.lt_of_lt_of_le hb h.2.2.2.1)).trans (h.2.2.2.2 b hb ho)⟩
theorem Within.setNew (h : Within lo hi w w') {p : Addr} (hp : w.heap.size ≤ p.block) (v : Value) : Within lo hi w (w'.setCell p v) :=
  ⟨h.1, h.2.1, h.2.2.1, by simpa [World.setCell] using h.2.2.2.1, fun b hb ho => (Below.heap_setCell w' p v b (by intro e; subst e; omega)).trans (h.2.2.2.2 b hb ho)⟩
theorem Within.setIn (h : Within lo hi w w') {p : Addr} (hp : lo ≤ p.block ∧ p.block < hi) (v : Value) : Within lo hi w (w'.setCell p v) :=
  ⟨h.1, h.2.1, h.2.2.1, by simpa [World.setCell] using h.2.2.2.1, fun b hb ho => (Below.heap_setCell w' p v b (by intro e; subst e; omega)).trans (h.2.2.2.2 b hb ho)⟩
theorem Within.drew (h : Within lo hi w w') : Within lo hi w w'.drew := h
theorem Within.wide {l2 h2 : Nat} (h : Within lo hi w w') (hl : l2 ≤ lo) (hh : hi ≤ h2) : Within l2 h2 w w' := ⟨h.1, h.2.1, h.2.2.1, h.2.2.2.1, fun b hb ho => h.2.2.2.2 b hb (by omega)⟩
theorem Within.trans (h : Within lo hi w w') (k : Within lo hi w' w2) : Within lo hi w w2 :=
  ⟨k.1.trans h.1, k.2.1.trans h.2.1, k.2.2.1.trans h.2.2.1, Nat.le_trans h.2.2.2.1 k.2.2.2.1, fun b hb ho => (k.2.2.2.2 b (Nat.lt_of_lt_of_le hb h.2.2.2.1) ho).trans (h.2.2.2.2 b hb ho)⟩
theorem Within.of_below (h : Below w.heap.size w w') : Within lo hi w w' := ⟨h.os, h.tape, h.output, h.size, fun b hb _ => h.block b hb⟩
theorem Within.blk {g : Nat} {t : TypeId} {cs : Array Value} (h : Within lo hi w w') (hk : Blk w g t cs) (hg : g < lo ∨ hi ≤ g) : Blk w' g t cs := (h.2.2.2.2 g hk.lt hg).trans hk
theorem Within.under {a : World} (h : Within lo hi w w') (hb : Below B a w) (hB : B ≤ lo) (hw : B ≤ w.heap.size) : Below B a w' :=
  ⟨h.1.trans hb.os, h.2.1.trans hb.tape, h.2.2.1.trans hb.output, Nat.le_trans hb.size h.2.2.2.1, fun i hi => (h.2.2.2.2 i (by omega) (.inl (by omega))).trans (hb.block i hi)⟩
theorem Within.own {l2 h2 : Nat} {e : TypeId} {size n : Nat} {v : Value} {xs : List Value} (h : Within lo hi w w') (k : OwnR w l2 h2 e size v n xs) (hd : h2 ≤ lo ∨ hi ≤ l2) : OwnR w' l2 h2 e size v n xs := by
  refine ⟨⟨k.1.1, ?_⟩, k.2⟩
  rcases k.1.2 with k2 | ⟨g, cap, cur, hv, hb, hg, hr⟩
  · exact .inl k2
  · have hlt : g < w.heap.size := Blk.lt (t := e) (cs := cur) hg
    have hhi := k.2 g (by rw [hv]; rfl)
    exact .inr ⟨g, cap, cur, hv, hb, (h.2.2.2.2 g hlt (by omega)).trans hg, hr⟩
end
theorem Within.pool {lo hi l2 h2 : Nat} {w w' : World} {ts : List T7} {ks : List Int} {fs : List F2} {A0 A1 A2 : Option Addr} {c0 c1 c2 : Nat} (h : Within lo hi w w') (k : OwnPool w l2 h2 ts ks fs A0 A1 A2 c0 c1 c2) (hd : h2 ≤ lo ∨ hi ≤ l2) : OwnPool w' l2 h2 ts ks fs A0 A1 A2 c0 c1 c2 := ⟨h.own k.1 hd, h.own k.2.1 hd, h.own k.2.2 hd⟩
end Go.Proofs.Ytgncjcnobojgbaa

namespace Go.Proofs.Ytgncjcnobojgbaa
open Go.RowKit
set_option linter.unusedVariables false

/-- A thing in memory: a block known whole, or a row. -/
inductive Res where
  | blk (g : Nat) (t : TypeId) (cs : Array Value)
  | row (e : TypeId) (size : Nat) (v : Value) (n : Nat) (xs : List Value)
def Res.fp : Res → Option Nat
  | .blk g _ _ => some g
  | .row _ _ v _ _ => v.ownBlock
def Res.here (W : World) : Res → Prop
  | .blk g t cs => Blk W g t cs
  | .row e size v n xs => W.ownsRow 0 e size v n xs
def fps (rs : List Res) : List Nat := rs.filterMap Res.fp
/-- From w to W only the blocks of S and new ones have changed; all things of rs lie in such blocks, no two in one. -/
structure Sep (S : List Nat) (w W : World) (rs : List Res) : Prop where
  os : W.os = w.os
  tape : W.tape = w.tape
  output : W.output = w.output
  size : w.heap.size ≤ W.heap.size
  block : ∀ b, b < w.heap.size → b ∉ S → W.heap[b]? = w.heap[b]?
  here : ∀ r ∈ rs, r.here W
  own : ∀ r ∈ rs, ∀ g, r.fp = some g → g ∈ S ∨ w.heap.size ≤ g
  apart : rs.Pairwise fun x y => ∀ g, x.fp = some g → y.fp ≠ some g

section
variable {S : List Nat} {w W W' : World} {rs ps bs : List Res} {r : Res}
theorem Res.here.lt {g : Nat} (h : r.here W) (hg : r.fp = some g) : g < W.heap.size := by
  cases r with
  | blk g' t cs => injection hg with hg; subst hg; exact Blk.lt h
  | row e size v n xs => exact (World.ownsRow.lt h g hg).2
theorem Res.here.keep (h : r.here W) (hk : ∀ g, r.fp = some g → W'.heap[g]? = W.heap[g]?) : r.here W' := by
  cases r with
  | blk g t cs => exact (hk g rfl).trans h
  | row e size v n xs =>
    refine ⟨h.1, ?_⟩
    rcases h.2 with h2 | ⟨g, cap, cur, hv, hb, hg, hr⟩
    · exact .inl h2
    · exact .inr ⟨g, cap, cur, hv, hb, (hk g (by subst hv; rfl)).trans hg, hr⟩
theorem mem_fps {g : Nat} : g ∈ fps rs ↔ ∃ r ∈ rs, r.fp = some g := by simp [fps]
theorem Sep.start (w : World) : Sep [] w w [] := ⟨rfl, rfl, rfl, Nat.le_refl _, fun _ _ _ => rfl, by simp, by simp, .nil⟩
theorem Sep.startS (S : List Nat) (w : World) : Sep S w w [] := ⟨rfl, rfl, rfl, Nat.le_refl _, fun _ _ _ => rfl, by simp, by simp, .nil⟩
theorem Sep.below (h : Sep [] w W rs) : Below w.heap.size w W := ⟨h.os, h.tape, h.output, h.size, fun b hb => h.block b hb (by simp)⟩
theorem Sep.of_below (h : Below w.heap.size w W) : Sep [] w W [] := ⟨h.os, h.tape, h.output, h.size, fun b hb _ => h.block b hb, by simp, by simp, .nil⟩
theorem Sep.drew (h : Sep S w W rs) : Sep S w W.drew rs := ⟨h.os, h.tape, h.output, h.size, h.block, h.here, h.own, h.apart⟩
theorem Sep.drewN (h : Sep S w W rs) (k : Nat) : Sep S w (W.drewN k) rs := ⟨h.os, h.tape, h.output, h.size, h.block, h.here, h.own, h.apart⟩
/-- A world whose blocks are those of W, but for those of 'ps', which have become 'bs'. -/
theorem Sep.comp (h : Sep S w W (ps ++ rs)) (k : Sep (fps ps) W W' bs) : Sep S w W' (bs ++ rs) := by
  have hap := List.pairwise_append.1 h.apart
  have hne : ∀ r ∈ rs, ∀ g, r.fp = some g → g ∉ fps ps := fun r hr g hg hm => by
    obtain ⟨a, ha, hag⟩ := mem_fps.1 hm
    exact hap.2.2 a ha r hr g hag hg
  have hlt : ∀ r ∈ rs, ∀ g, r.fp = some g → g < W.heap.size := fun r hr g hg => (h.here r (List.mem_append_right _ hr)).lt hg
  refine ⟨k.os.trans h.os, k.tape.trans h.tape, k.output.trans h.output, Nat.le_trans h.size k.size, fun b hb hS => ?_, fun r hr => ?_, fun r hr g hg => ?_, List.pairwise_append.2 ⟨k.apart, hap.2.1, fun x hx y hy g hxg hyg => ?_⟩⟩
  · refine (k.block b (Nat.lt_of_lt_of_le hb h.size) (fun hm => ?_)).trans (h.block b hb hS)
    obtain ⟨a, ha, hag⟩ := mem_fps.1 hm
    rcases h.own a (List.mem_append_left _ ha) b hag with h1 | h1
    · exact hS h1
    · omega
  · rcases List.mem_append.1 hr with hr | hr
    · exact k.here r hr
    · exact (h.here r (List.mem_append_right _ hr)).keep fun g hg => k.block g (hlt r hr g hg) (hne r hr g hg)
  · rcases List.mem_append.1 hr with hr | hr
    · rcases k.own r hr g hg with h1 | h1
      · obtain ⟨a, ha, hag⟩ := mem_fps.1 h1
        exact h.own a (List.mem_append_left _ ha) g hag
      · exact .inr (Nat.le_trans h.size h1)
    · exact h.own r (List.mem_append_right _ hr) g hg
  · rcases k.own x hx g hxg with h1 | h1
    · exact hne y hy g hyg h1
    · have := hlt y hy g hyg; omega
theorem Sep.call (h : Sep S w W rs) (hb : Below W.heap.size W W') : Sep S w W' rs := Sep.comp (ps := []) (bs := []) h (Sep.of_below hb)
theorem Sep.new (h : Sep S w W rs) (k : Sep [] W W' bs) : Sep S w W' (bs ++ rs) := Sep.comp (ps := []) h k
theorem Sep.sub (h : Sep S w W rs) (k : bs.Sublist rs) : Sep S w W bs := ⟨h.os, h.tape, h.output, h.size, h.block, fun r hr => h.here r (k.mem hr), fun r hr => h.own r (k.mem hr), h.apart.sublist k⟩
theorem Sep.tail (h : Sep S w W (r :: rs)) : Sep S w W rs := h.sub (List.sublist_cons_self _ _)
theorem Sep.drop (h : Sep S w W rs) (n : Nat) : Sep S w W (rs.drop n) := h.sub (List.drop_sublist n rs)
theorem Sep.take (h : Sep S w W rs) (n : Nat) : Sep S w W (rs.take n) := h.sub (List.take_sublist n rs)
theorem Sep.perm (h : Sep S w W rs) (k : rs.Perm bs) : Sep S w W bs :=
  ⟨h.os, h.tape, h.output, h.size, h.block, fun r hr => h.here r (k.mem_iff.2 hr), fun r hr => h.own r (k.mem_iff.2 hr),
    (k.pairwise_iff (by intro x y hxy g hy hx; exact hxy g hx hy)).1 h.apart⟩
/-- The thing in place i goes to the front. -/
theorem Sep.front (h : Sep S w W rs) (i : Nat) (hi : rs[i]? = some r) : Sep S w W (r :: rs.eraseIdx i) := by
  have hlt : i < rs.length := by
    rcases Nat.lt_or_ge i rs.length with h1 | h1
    · exact h1
    · rw [List.getElem?_eq_none h1] at hi; cases hi
  rw [List.getElem?_eq_getElem hlt] at hi
  injection hi with hi
  subst hi
  refine h.perm ?_
  have e : rs = rs.take i ++ rs[i] :: rs.drop (i + 1) := by rw [← List.drop_eq_getElem_cons hlt]; exact (List.take_append_drop i rs).symm
  rw [List.eraseIdx_eq_take_drop_succ]
  calc rs.Perm (rs.take i ++ rs[i] :: rs.drop (i + 1)) := by rw [← e]
    _ |>.Perm (rs[i] :: (rs.take i ++ rs.drop (i + 1))) := List.perm_middle
theorem Sep.back {a : Res} {l1 l2 : List Res} (h : Sep S w W (a :: (l1 ++ l2))) : Sep S w W (l1 ++ a :: l2) := h.perm List.perm_middle.symm
/-- The thing in place i becomes another one of the same block; all else is as it was. -/
theorem Sep.upd (h : Sep S w W rs) (i : Nat) (r r' : Res) (hi : rs[i]? = some r) (g : Nat) (hg : r.fp = some g) (hg' : ∀ x, r'.fp = some x → x = g) (hr : r'.here W') (ho : W'.os = W.os) (ht : W'.tape = W.tape) (hp : W'.output = W.output) (hs : W.heap.size ≤ W'.heap.size) (hb : ∀ b, b < W.heap.size → b ≠ g → W'.heap[b]? = W.heap[b]?) : Sep S w W' (rs.set i r') := by
  have hlt : i < rs.length := by
    rcases Nat.lt_or_ge i rs.length with h1 | h1
    · exact h1
    · rw [List.getElem?_eq_none h1] at hi; cases hi
  have hgl : g < W.heap.size := (h.here r (List.mem_of_getElem? hi)).lt hg
  have k : Sep (fps [r]) W W' [r'] := ⟨ho, ht, hp, hs, fun b hbl hn => hb b hbl (fun e => hn (by subst e; exact mem_fps.2 ⟨r, by simp, hg⟩)), fun x hx => by rw [List.mem_singleton.1 hx]; exact hr, fun x hx y hy => .inl (mem_fps.2 ⟨r, by simp, by rw [List.mem_singleton.1 hx] at hy; rw [hg' y hy]; exact hg⟩), List.pairwise_singleton _ _⟩
  have h2 : Sep S w W' (r' :: rs.eraseIdx i) := Sep.comp (ps := [r]) (h.front i hi) k
  rw [List.eraseIdx_eq_take_drop_succ] at h2
  rw [List.set_eq_take_append_cons_drop, if_pos hlt]
  exact h2.back
theorem Sep.set (h : Sep S w W rs) (i : Nat) {g : Nat} {t : TypeId} {cs : Array Value} (hi : rs[i]? = some (.blk g t cs)) (j : Nat) (u : Value) : Sep S w (W.setCell ⟨g, j, none⟩ u) (rs.set i (.blk g t (cs.setIfInBounds j u))) :=
  h.upd i _ _ hi g rfl (fun x hx => by injection hx with hx; exact hx.symm) (Blk.set_ (h.here _ (List.mem_of_getElem? hi)) j u) rfl rfl rfl (by simp [World.setCell]) (fun b _ hne => Below.heap_setCell W _ u b hne)
theorem Sep.setR (h : Sep S w W rs) (i : Nat) {e : TypeId} {size g n c : Nat} {xs : List Value} (hi : rs[i]? = some (.row e size (.slice (some ⟨g, 0, none⟩) n c) n xs)) (j : Nat) (u : Value) : Sep S w (W.setCell ⟨g, j, none⟩ u) (rs.set i (.row e size (.slice (some ⟨g, 0, none⟩) n c) n (xs.set j u))) :=
  h.upd i _ _ hi g rfl (fun x hx => by injection hx with hx; exact hx.symm) (World.ownsRow.stored (h.here _ (List.mem_of_getElem? hi)) j u).1 rfl rfl rfl (by simp [World.setCell]) (fun b _ hne => Below.heap_setCell W _ u b hne)
theorem Sep.alloc (h : Sep S w W rs) (t : TypeId) (cs : Array Value) (a : Nat) (ha : W.heap.size = a) : Sep S w (W.alloc (.cells cs t)) (.blk a t cs :: rs) := by
  subst ha
  refine Sep.new (bs := [.blk W.heap.size t cs]) h ⟨rfl, rfl, rfl, by simp, fun b hb _ => Below.heap_alloc W _ b hb, fun x hx => ?_, fun x hx g hg => ?_, List.pairwise_singleton _ _⟩
  · rw [List.mem_singleton.1 hx]; exact Blk.new W t cs
  · rw [List.mem_singleton.1 hx] at hg; injection hg with hg; exact .inr (Nat.le_of_eq hg)
theorem Sep.allocN (h : Sep S w W rs) (t : TypeId) (cs : Array Value) : Sep S w (W.alloc (.cells cs t)) (.blk W.heap.size t cs :: rs) := h.alloc t cs _ rfl
theorem Sep.blk (h : Sep S w W rs) (i : Nat) {g : Nat} {t : TypeId} {cs : Array Value} (hi : rs[i]? = some (.blk g t cs)) : Blk W g t cs := h.here _ (List.mem_of_getElem? hi)
theorem Sep.cell (h : Sep S w W rs) (i j : Nat) {g : Nat} {t : TypeId} {cs : Array Value} (hi : rs[i]? = some (.blk g t cs)) : W.cell? ⟨g, j, none⟩ = cs[j]? := (h.blk i hi).cell j
theorem Sep.fz (h : Sep S w W rs) (i j : Nat) {g : Nat} {t : TypeId} {cs : Array Value} (hi : rs[i]? = some (.blk g t cs)) : W.frozen? ⟨g, j, none⟩ = false := (h.blk i hi).frozen j
theorem Sep.lt (h : Sep S w W rs) (i : Nat) {g : Nat} {t : TypeId} {cs : Array Value} (hi : rs[i]? = some (.blk g t cs)) : g < W.heap.size := (h.blk i hi).lt
theorem Sep.rowAt (h : Sep S w W rs) (i : Nat) {e : TypeId} {size n : Nat} {v : Value} {xs : List Value} (hi : rs[i]? = some (.row e size v n xs)) : W.ownsRow 0 e size v n xs := h.here _ (List.mem_of_getElem? hi)
theorem own_raise {W : World} {base e size n} {v : Value} {xs : List Value} (h : W.ownsRow 0 e size v n xs) (hb : ∀ g, v.ownBlock = some g → base ≤ g) : W.ownsRow base e size v n xs := by
  refine ⟨h.1, ?_⟩
  rcases h.2 with h2 | ⟨g, cap, cur, hv, _, hg, hr⟩
  · exact .inl h2
  · exact .inr ⟨g, cap, cur, hv, hb g (by subst hv; rfl), hg, hr⟩
theorem Sep.ownsAt (h : Sep [] w W rs) (i : Nat) {e : TypeId} {size n : Nat} {v : Value} {xs : List Value} (hi : rs[i]? = some (.row e size v n xs)) : W.ownsRow w.heap.size e size v n xs :=
  own_raise (h.rowAt i hi) fun g hg => by
    rcases h.own _ (List.mem_of_getElem? hi) g hg with h1 | h1
    · simp at h1
    · exact h1
theorem Sep.ownR (h : Sep [] w W rs) (i : Nat) {e : TypeId} {size n : Nat} {v : Value} {xs : List Value} (hi : rs[i]? = some (.row e size v n xs)) : OwnR W w.heap.size W.heap.size e size v n xs :=
  ⟨h.ownsAt i hi, fun k hk => (World.ownsRow.lt (h.rowAt i hi) k hk).2⟩
theorem Sep.rowS (h : Sep S w W rs) (i : Nat) {e : TypeId} {size n c : Nat} {A : Option Addr} {xs : List Value} (hi : rs[i]? = some (.row e size (.slice A n c) n xs)) : Row W A xs := Row.of_own (h.rowAt i hi)
/-- A new row. -/
theorem sepRow {e : TypeId} {size n : Nat} {v : Value} {xs : List Value} (hb : Below w.heap.size w W) (h : W.ownsRow w.heap.size e size v n xs) : Sep [] w W [.row e size v n xs] :=
  ⟨hb.os, hb.tape, hb.output, hb.size, fun b hlt _ => hb.block b hlt, fun x hx => by rw [List.mem_singleton.1 hx]; exact Own.lower h (Nat.zero_le _), fun x hx g hg => by rw [List.mem_singleton.1 hx] at hg; exact .inr (World.ownsRow.lt h g hg).1, List.pairwise_singleton _ _⟩
/-- Three new rows of three types: a pool. -/
theorem sepRows3 {e1 e2 e3 : TypeId} {s1 s2 s3 n1 n2 n3 : Nat} {v1 v2 v3 : Value} {x1 x2 x3 : List Value} {lo : Nat} (hlo : w.heap.size ≤ lo) (hb : Below w.heap.size w W) (h1 : W.ownsRow lo e1 s1 v1 n1 x1) (h2 : W.ownsRow lo e2 s2 v2 n2 x2) (h3 : W.ownsRow lo e3 s3 v3 n3 x3) (d12 : e1 ≠ e2) (d13 : e1 ≠ e3) (d23 : e2 ≠ e3) : Sep [] w W [.row e1 s1 v1 n1 x1, .row e2 s2 v2 n2 x2, .row e3 s3 v3 n3 x3] := by
  have ne : ∀ {e e' s s' n n'} {v v' : Value} {x x'}, W.ownsRow lo e s v n x → W.ownsRow lo e' s' v' n' x' → e ≠ e' → ∀ g, v.ownBlock = some g → v'.ownBlock ≠ some g := fun a b d g h1 h2 => by
    rcases own_ne_own a b d with h | h
    · rw [h] at h1; cases h1
    · exact h (h1.trans h2.symm)
  refine ⟨hb.os, hb.tape, hb.output, hb.size, fun b hlt _ => hb.block b hlt, fun x hx => ?_, fun x hx g hg => ?_, ?_⟩
  · simp only [List.mem_cons, List.not_mem_nil, or_false] at hx
    rcases hx with rfl | rfl | rfl
    · exact Own.lower h1 (Nat.zero_le _)
    · exact Own.lower h2 (Nat.zero_le _)
    · exact Own.lower h3 (Nat.zero_le _)
  · simp only [List.mem_cons, List.not_mem_nil, or_false] at hx
    rcases hx with rfl | rfl | rfl
    · exact .inr (Nat.le_trans hlo (World.ownsRow.lt h1 g hg).1)
    · exact .inr (Nat.le_trans hlo (World.ownsRow.lt h2 g hg).1)
    · exact .inr (Nat.le_trans hlo (World.ownsRow.lt h3 g hg).1)
  · refine List.Pairwise.cons ?_ (List.Pairwise.cons ?_ (List.pairwise_singleton _ _))
    · intro y hy
      simp only [List.mem_cons, List.not_mem_nil, or_false] at hy
      rcases hy with rfl | rfl
      · exact ne h1 h2 d12
      · exact ne h1 h3 d13
    · intro y hy
      simp only [List.mem_cons, List.not_mem_nil, or_false] at hy
      subst hy
      exact ne h2 h3 d23
/-- One row of the caller's is another one of the same block. -/
theorem sepOne {e : TypeId} {size size' n n' : Nat} {v v' : Value} {xs xs' : List Value} (hv : ∀ g, v'.ownBlock = some g → v.ownBlock = some g ∨ w.heap.size ≤ g) (hg : w.grownBy W v.ownBlock) (h : W.ownsRow 0 e size' v' n' xs') : Sep (fps [.row e size v n xs]) w W [.row e size' v' n' xs'] :=
  ⟨hg.os, hg.tape, hg.output, hg.size, fun b hlt hn => hg.block b hlt (fun e' => hn (mem_fps.2 ⟨_, List.mem_singleton_self _, e'.symm⟩)), fun x hx => by rw [List.mem_singleton.1 hx]; exact h, fun x hx g hgx => by
    rw [List.mem_singleton.1 hx] at hgx
    rcases hv g hgx with h1 | h1
    · exact .inl (mem_fps.2 ⟨_, List.mem_singleton_self _, h1⟩)
    · exact .inr h1, List.pairwise_singleton _ _⟩
/-- Nothing of the caller's things has changed. -/
theorem Sep.same (h : Sep S w W (ps ++ rs)) (hb : Below W.heap.size W W') : Sep (fps ps) W W' ps :=
  ⟨hb.os, hb.tape, hb.output, hb.size, fun b hlt _ => hb.block b hlt, fun r hr => (h.here r (List.mem_append_left _ hr)).keep fun g hg => hb.block g ((h.here r (List.mem_append_left _ hr)).lt hg), fun r hr g hg => .inl (mem_fps.2 ⟨r, hr, hg⟩), (List.pairwise_append.1 h.apart).1⟩
theorem Sep.wideS {S' : List Nat} (h : Sep S w W rs) (hS : ∀ g ∈ S, g ∈ S') : Sep S' w W rs := ⟨h.os, h.tape, h.output, h.size, fun b hb hn => h.block b hb (fun hm => hn (hS b hm)), h.here, fun r hr g hg => (h.own r hr g hg).imp (hS g) id, h.apart⟩
end
section
variable {w : World}
theorem Sep.enter2 {o1 o2 : Array Value} {t1 t2 : TypeId} (w : World) : Sep [] w ((w.alloc (.cells o1 t1)).alloc (.cells o2 t2)) [.blk (w.heap.size + 1) t2 o2, .blk w.heap.size t1 o1] :=
  ((Sep.start w).alloc t1 o1 w.heap.size rfl).alloc t2 o2 _ (by simp)
theorem Sep.enter3 {o1 o2 o3 : Array Value} {t1 t2 t3 : TypeId} (w : World) : Sep [] w (((w.alloc (.cells o1 t1)).alloc (.cells o2 t2)).alloc (.cells o3 t3)) [.blk (w.heap.size + 2) t3 o3, .blk (w.heap.size + 1) t2 o2, .blk w.heap.size t1 o1] :=
  (Sep.enter2 w).alloc t3 o3 _ (by simp)
theorem Sep.enter4 {o1 o2 o3 o4 : Array Value} {t1 t2 t3 t4 : TypeId} (w : World) : Sep [] w ((((w.alloc (.cells o1 t1)).alloc (.cells o2 t2)).alloc (.cells o3 t3)).alloc (.cells o4 t4)) [.blk (w.heap.size + 3) t4 o4, .blk (w.heap.size + 2) t3 o3, .blk (w.heap.size + 1) t2 o2, .blk w.heap.size t1 o1] :=
  (Sep.enter3 w).alloc t4 o4 _ (by simp)
theorem Sep.enter5 {o1 o2 o3 o4 o5 : Array Value} {t1 t2 t3 t4 t5 : TypeId} (w : World) : Sep [] w (((((w.alloc (.cells o1 t1)).alloc (.cells o2 t2)).alloc (.cells o3 t3)).alloc (.cells o4 t4)).alloc (.cells o5 t5)) [.blk (w.heap.size + 4) t5 o5, .blk (w.heap.size + 3) t4 o4, .blk (w.heap.size + 2) t3 o3, .blk (w.heap.size + 1) t2 o2, .blk w.heap.size t1 o1] :=
  (Sep.enter4 w).alloc t5 o5 _ (by simp)
end
theorem Sep.set2 {S : List Nat} {w W : World} {rs : List Res} (h : Sep S w W rs) (i : Nat) {g : Nat} {t : TypeId} {x0 x1 : Value} (hi : rs[i]? = some (.blk g t #[x0, x1])) (v0 v1 : Value) : Sep S w ((W.setCell ⟨g, 0, none⟩ v0).setCell ⟨g, 1, none⟩ v1) (rs.set i (.blk g t #[v0, v1])) := by
  have hl : i < rs.length := by
    rcases Nat.lt_or_ge i rs.length with h1 | h1
    · exact h1
    · rw [List.getElem?_eq_none h1] at hi; cases hi
  have h2 := (h.set i hi 0 v0).set i (List.getElem?_set_self hl) 1 v1
  rw [List.set_set] at h2
  exact h2
theorem Sep.set5 {S : List Nat} {w W : World} {rs : List Res} (h : Sep S w W rs) (i : Nat) {g : Nat} {t : TypeId} {x0 x1 x2 x3 x4 : Value} (hi : rs[i]? = some (.blk g t #[x0, x1, x2, x3, x4])) (v0 v1 v2 v3 v4 : Value) : Sep S w (((((W.setCell ⟨g, 0, none⟩ v0).setCell ⟨g, 1, none⟩ v1).setCell ⟨g, 2, none⟩ v2).setCell ⟨g, 3, none⟩ v3).setCell ⟨g, 4, none⟩ v4) (rs.set i (.blk g t #[v0, v1, v2, v3, v4])) := by
  have hl : i < rs.length := by
    rcases Nat.lt_or_ge i rs.length with h1 | h1
    · exact h1
    · rw [List.getElem?_eq_none h1] at hi; cases hi
  have h2 := ((((h.set i hi 0 v0).set i (List.getElem?_set_self hl) 1 v1).set i (List.getElem?_set_self (by simpa using hl)) 2 v2).set i (List.getElem?_set_self (by simpa using hl)) 3 v3).set i (List.getElem?_set_self (by simpa using hl)) 4 v4
  rw [List.set_set, List.set_set, List.set_set, List.set_set] at h2
  exact h2
theorem Sep.ne {S : List Nat} {w W : World} {rs : List Res} (h : Sep S w W rs) (i j : Nat) (hij : i < j) {r r' : Res} {g g' : Nat} (hi : rs[i]? = some r) (hj : rs[j]? = some r') (hg : r.fp = some g) (hg' : r'.fp = some g') : g ≠ g' ∧ g' ≠ g := by
  have hl : j < rs.length := by
    rcases Nat.lt_or_ge j rs.length with h1 | h1
    · exact h1
    · rw [List.getElem?_eq_none h1] at hj; cases hj
  have hp := (List.pairwise_iff_getElem.1 h.apart) i j (by omega) hl hij
  rw [List.getElem?_eq_getElem (by omega)] at hi hj
  injection hi with hi
  injection hj with hj
  subst hi hj
  have h1 : g ≠ g' := fun e => hp g hg (by rw [hg', e])
  exact ⟨h1, fun e => h1 e.symm⟩
end Go.Proofs.Ytgncjcnobojgbaa

namespace Go.Proofs.Ytgncjcnobojgbaa
open Go.RowKit
set_option linter.unusedVariables false

theorem Sep.f1 {S : List Nat} {w W : World} {rs : List Res} (h : Sep S w W rs) (i : Nat) {g : Nat} {t : TypeId} {v0 : Value} (hi : rs[i]? = some (.blk g t #[v0])) : g < W.heap.size ∧ W.cell? ⟨g, 0, none⟩ = some v0 ∧ W.frozen? ⟨g, 0, none⟩ = false :=
  ⟨h.lt i hi, h.cell i 0 hi, h.fz i 0 hi⟩
theorem Sep.q1 {S : List Nat} {w W : World} {rs : List Res} (h : Sep S w W rs) (i : Nat) {g : Nat} {t : TypeId} {v0 : Value} (hi : rs[i]? = some (.blk g t #[v0])) : g < W.heap.size ∧ W.cell? ⟨g, 0, none⟩ = some v0 :=
  ⟨h.lt i hi, h.cell i 0 hi⟩
theorem Sep.f2 {S : List Nat} {w W : World} {rs : List Res} (h : Sep S w W rs) (i : Nat) {g : Nat} {t : TypeId} {v0 v1 : Value} (hi : rs[i]? = some (.blk g t #[v0, v1])) : g < W.heap.size ∧ W.cell? ⟨g, 0, none⟩ = some v0 ∧ W.frozen? ⟨g, 0, none⟩ = false ∧ W.cell? ⟨g, 1, none⟩ = some v1 ∧ W.frozen? ⟨g, 1, none⟩ = false :=
  ⟨h.lt i hi, h.cell i 0 hi, h.fz i 0 hi, h.cell i 1 hi, h.fz i 1 hi⟩
theorem Sep.q2 {S : List Nat} {w W : World} {rs : List Res} (h : Sep S w W rs) (i : Nat) {g : Nat} {t : TypeId} {v0 v1 : Value} (hi : rs[i]? = some (.blk g t #[v0, v1])) : g < W.heap.size ∧ W.cell? ⟨g, 0, none⟩ = some v0 ∧ W.cell? ⟨g, 1, none⟩ = some v1 :=
  ⟨h.lt i hi, h.cell i 0 hi, h.cell i 1 hi⟩
theorem Sep.f3 {S : List Nat} {w W : World} {rs : List Res} (h : Sep S w W rs) (i : Nat) {g : Nat} {t : TypeId} {v0 v1 v2 : Value} (hi : rs[i]? = some (.blk g t #[v0, v1, v2])) : g < W.heap.size ∧ W.cell? ⟨g, 0, none⟩ = some v0 ∧ W.frozen? ⟨g, 0, none⟩ = false ∧ W.cell? ⟨g, 1, none⟩ = some v1 ∧ W.frozen? ⟨g, 1, none⟩ = false ∧ W.cell? ⟨g, 2, none⟩ = some v2 ∧ W.frozen? ⟨g, 2, none⟩ = false :=
  ⟨h.lt i hi, h.cell i 0 hi, h.fz i 0 hi, h.cell i 1 hi, h.fz i 1 hi, h.cell i 2 hi, h.fz i 2 hi⟩
theorem Sep.q3 {S : List Nat} {w W : World} {rs : List Res} (h : Sep S w W rs) (i : Nat) {g : Nat} {t : TypeId} {v0 v1 v2 : Value} (hi : rs[i]? = some (.blk g t #[v0, v1, v2])) : g < W.heap.size ∧ W.cell? ⟨g, 0, none⟩ = some v0 ∧ W.cell? ⟨g, 1, none⟩ = some v1 ∧ W.cell? ⟨g, 2, none⟩ = some v2 :=
  ⟨h.lt i hi, h.cell i 0 hi, h.cell i 1 hi, h.cell i 2 hi⟩
theorem Sep.f4 {S : List Nat} {w W : World} {rs : List Res} (h : Sep S w W rs) (i : Nat) {g : Nat} {t : TypeId} {v0 v1 v2 v3 : Value} (hi : rs[i]? = some (.blk g t #[v0, v1, v2, v3])) : g < W.heap.size ∧ W.cell? ⟨g, 0, none⟩ = some v0 ∧ W.frozen? ⟨g, 0, none⟩ = false ∧ W.cell? ⟨g, 1, none⟩ = some v1 ∧ W.frozen? ⟨g, 1, none⟩ = false ∧ W.cell? ⟨g, 2, none⟩ = some v2 ∧ W.frozen? ⟨g, 2, none⟩ = false ∧ W.cell? ⟨g, 3, none⟩ = some v3 ∧ W.frozen? ⟨g, 3, none⟩ = false :=
  ⟨h.lt i hi, h.cell i 0 hi, h.fz i 0 hi, h.cell i 1 hi, h.fz i 1 hi, h.cell i 2 hi, h.fz i 2 hi, h.cell i 3 hi, h.fz i 3 hi⟩
theorem Sep.q4 {S : List Nat} {w W : World} {rs : List Res} (h : Sep S w W rs) (i : Nat) {g : Nat} {t : TypeId} {v0 v1 v2 v3 : Value} (hi : rs[i]? = some (.blk g t #[v0, v1, v2, v3])) : g < W.heap.size ∧ W.cell? ⟨g, 0, none⟩ = some v0 ∧ W.cell? ⟨g, 1, none⟩ = some v1 ∧ W.cell? ⟨g, 2, none⟩ = some v2 ∧ W.cell? ⟨g, 3, none⟩ = some v3 :=
  ⟨h.lt i hi, h.cell i 0 hi, h.cell i 1 hi, h.cell i 2 hi, h.cell i 3 hi⟩
theorem Sep.f5 {S : List Nat} {w W : World} {rs : List Res} (h : Sep S w W rs) (i : Nat) {g : Nat} {t : TypeId} {v0 v1 v2 v3 v4 : Value} (hi : rs[i]? = some (.blk g t #[v0, v1, v2, v3, v4])) : g < W.heap.size ∧ W.cell? ⟨g, 0, none⟩ = some v0 ∧ W.frozen? ⟨g, 0, none⟩ = false ∧ W.cell? ⟨g, 1, none⟩ = some v1 ∧ W.frozen? ⟨g, 1, none⟩ = false ∧ W.cell? ⟨g, 2, none⟩ = some v2 ∧ W.frozen? ⟨g, 2, none⟩ = false ∧ W.cell? ⟨g, 3, none⟩ = some v3 ∧ W.frozen? ⟨g, 3, none⟩ = false ∧ W.cell? ⟨g, 4, none⟩ = some v4 ∧ W.frozen? ⟨g, 4, none⟩ = false :=
  ⟨h.lt i hi, h.cell i 0 hi, h.fz i 0 hi, h.cell i 1 hi, h.fz i 1 hi, h.cell i 2 hi, h.fz i 2 hi, h.cell i 3 hi, h.fz i 3 hi, h.cell i 4 hi, h.fz i 4 hi⟩
theorem Sep.q5 {S : List Nat} {w W : World} {rs : List Res} (h : Sep S w W rs) (i : Nat) {g : Nat} {t : TypeId} {v0 v1 v2 v3 v4 : Value} (hi : rs[i]? = some (.blk g t #[v0, v1, v2, v3, v4])) : g < W.heap.size ∧ W.cell? ⟨g, 0, none⟩ = some v0 ∧ W.cell? ⟨g, 1, none⟩ = some v1 ∧ W.cell? ⟨g, 2, none⟩ = some v2 ∧ W.cell? ⟨g, 3, none⟩ = some v3 ∧ W.cell? ⟨g, 4, none⟩ = some v4 :=
  ⟨h.lt i hi, h.cell i 0 hi, h.cell i 1 hi, h.cell i 2 hi, h.cell i 3 hi, h.cell i 4 hi⟩
theorem Sep.f6 {S : List Nat} {w W : World} {rs : List Res} (h : Sep S w W rs) (i : Nat) {g : Nat} {t : TypeId} {v0 v1 v2 v3 v4 v5 : Value} (hi : rs[i]? = some (.blk g t #[v0, v1, v2, v3, v4, v5])) : g < W.heap.size ∧ W.cell? ⟨g, 0, none⟩ = some v0 ∧ W.frozen? ⟨g, 0, none⟩ = false ∧ W.cell? ⟨g, 1, none⟩ = some v1 ∧ W.frozen? ⟨g, 1, none⟩ = false ∧ W.cell? ⟨g, 2, none⟩ = some v2 ∧ W.frozen? ⟨g, 2, none⟩ = false ∧ W.cell? ⟨g, 3, none⟩ = some v3 ∧ W.frozen? ⟨g, 3, none⟩ = false ∧ W.cell? ⟨g, 4, none⟩ = some v4 ∧ W.frozen? ⟨g, 4, none⟩ = false ∧ W.cell? ⟨g, 5, none⟩ = some v5 ∧ W.frozen? ⟨g, 5, none⟩ = false :=
  ⟨h.lt i hi, h.cell i 0 hi, h.fz i 0 hi, h.cell i 1 hi, h.fz i 1 hi, h.cell i 2 hi, h.fz i 2 hi, h.cell i 3 hi, h.fz i 3 hi, h.cell i 4 hi, h.fz i 4 hi, h.cell i 5 hi, h.fz i 5 hi⟩
theorem Sep.q6 {S : List Nat} {w W : World} {rs : List Res} (h : Sep S w W rs) (i : Nat) {g : Nat} {t : TypeId} {v0 v1 v2 v3 v4 v5 : Value} (hi : rs[i]? = some (.blk g t #[v0, v1, v2, v3, v4, v5])) : g < W.heap.size ∧ W.cell? ⟨g, 0, none⟩ = some v0 ∧ W.cell? ⟨g, 1, none⟩ = some v1 ∧ W.cell? ⟨g, 2, none⟩ = some v2 ∧ W.cell? ⟨g, 3, none⟩ = some v3 ∧ W.cell? ⟨g, 4, none⟩ = some v4 ∧ W.cell? ⟨g, 5, none⟩ = some v5 :=
  ⟨h.lt i hi, h.cell i 0 hi, h.cell i 1 hi, h.cell i 2 hi, h.cell i 3 hi, h.cell i 4 hi, h.cell i 5 hi⟩
theorem Sep.f7 {S : List Nat} {w W : World} {rs : List Res} (h : Sep S w W rs) (i : Nat) {g : Nat} {t : TypeId} {v0 v1 v2 v3 v4 v5 v6 : Value} (hi : rs[i]? = some (.blk g t #[v0, v1, v2, v3, v4, v5, v6])) : g < W.heap.size ∧ W.cell? ⟨g, 0, none⟩ = some v0 ∧ W.frozen? ⟨g, 0, none⟩ = false ∧ W.cell? ⟨g, 1, none⟩ = some v1 ∧ W.frozen? ⟨g, 1, none⟩ = false ∧ W.cell? ⟨g, 2, none⟩ = some v2 ∧ W.frozen? ⟨g, 2, none⟩ = false ∧ W.cell? ⟨g, 3, none⟩ = some v3 ∧ W.frozen? ⟨g, 3, none⟩ = false ∧ W.cell? ⟨g, 4, none⟩ = some v4 ∧ W.frozen? ⟨g, 4, none⟩ = false ∧ W.cell? ⟨g, 5, none⟩ = some v5 ∧ W.frozen? ⟨g, 5, none⟩ = false ∧ W.cell? ⟨g, 6, none⟩ = some v6 ∧ W.frozen? ⟨g, 6, none⟩ = false :=
  ⟨h.lt i hi, h.cell i 0 hi, h.fz i 0 hi, h.cell i 1 hi, h.fz i 1 hi, h.cell i 2 hi, h.fz i 2 hi, h.cell i 3 hi, h.fz i 3 hi, h.cell i 4 hi, h.fz i 4 hi, h.cell i 5 hi, h.fz i 5 hi, h.cell i 6 hi, h.fz i 6 hi⟩
theorem Sep.q7 {S : List Nat} {w W : World} {rs : List Res} (h : Sep S w W rs) (i : Nat) {g : Nat} {t : TypeId} {v0 v1 v2 v3 v4 v5 v6 : Value} (hi : rs[i]? = some (.blk g t #[v0, v1, v2, v3, v4, v5, v6])) : g < W.heap.size ∧ W.cell? ⟨g, 0, none⟩ = some v0 ∧ W.cell? ⟨g, 1, none⟩ = some v1 ∧ W.cell? ⟨g, 2, none⟩ = some v2 ∧ W.cell? ⟨g, 3, none⟩ = some v3 ∧ W.cell? ⟨g, 4, none⟩ = some v4 ∧ W.cell? ⟨g, 5, none⟩ = some v5 ∧ W.cell? ⟨g, 6, none⟩ = some v6 :=
  ⟨h.lt i hi, h.cell i 0 hi, h.cell i 1 hi, h.cell i 2 hi, h.cell i 3 hi, h.cell i 4 hi, h.cell i 5 hi, h.cell i 6 hi⟩
theorem Sep.f8 {S : List Nat} {w W : World} {rs : List Res} (h : Sep S w W rs) (i : Nat) {g : Nat} {t : TypeId} {v0 v1 v2 v3 v4 v5 v6 v7 : Value} (hi : rs[i]? = some (.blk g t #[v0, v1, v2, v3, v4, v5, v6, v7])) : g < W.heap.size ∧ W.cell? ⟨g, 0, none⟩ = some v0 ∧ W.frozen? ⟨g, 0, none⟩ = false ∧ W.cell? ⟨g, 1, none⟩ = some v1 ∧ W.frozen? ⟨g, 1, none⟩ = false ∧ W.cell? ⟨g, 2, none⟩ = some v2 ∧ W.frozen? ⟨g, 2, none⟩ = false ∧ W.cell? ⟨g, 3, none⟩ = some v3 ∧ W.frozen? ⟨g, 3, none⟩ = false ∧ W.cell? ⟨g, 4, none⟩ = some v4 ∧ W.frozen? ⟨g, 4, none⟩ = false ∧ W.cell? ⟨g, 5, none⟩ = some v5 ∧ W.frozen? ⟨g, 5, none⟩ = false ∧ W.cell? ⟨g, 6, none⟩ = some v6 ∧ W.frozen? ⟨g, 6, none⟩ = false ∧ W.cell? ⟨g, 7, none⟩ = some v7 ∧ W.frozen? ⟨g, 7, none⟩ = false :=
  ⟨h.lt i hi, h.cell i 0 hi, h.fz i 0 hi, h.cell i 1 hi, h.fz i 1 hi, h.cell i 2 hi, h.fz i 2 hi, h.cell i 3 hi, h.fz i 3 hi, h.cell i 4 hi, h.fz i 4 hi, h.cell i 5 hi, h.fz i 5 hi, h.cell i 6 hi, h.fz i 6 hi, h.cell i 7 hi, h.fz i 7 hi⟩
theorem Sep.q8 {S : List Nat} {w W : World} {rs : List Res} (h : Sep S w W rs) (i : Nat) {g : Nat} {t : TypeId} {v0 v1 v2 v3 v4 v5 v6 v7 : Value} (hi : rs[i]? = some (.blk g t #[v0, v1, v2, v3, v4, v5, v6, v7])) : g < W.heap.size ∧ W.cell? ⟨g, 0, none⟩ = some v0 ∧ W.cell? ⟨g, 1, none⟩ = some v1 ∧ W.cell? ⟨g, 2, none⟩ = some v2 ∧ W.cell? ⟨g, 3, none⟩ = some v3 ∧ W.cell? ⟨g, 4, none⟩ = some v4 ∧ W.cell? ⟨g, 5, none⟩ = some v5 ∧ W.cell? ⟨g, 6, none⟩ = some v6 ∧ W.cell? ⟨g, 7, none⟩ = some v7 :=
  ⟨h.lt i hi, h.cell i 0 hi, h.cell i 1 hi, h.cell i 2 hi, h.cell i 3 hi, h.cell i 4 hi, h.cell i 5 hi, h.cell i 6 hi, h.cell i 7 hi⟩
theorem Sep.gset1 {S : List Nat} {w W : World} {rs : List Res} (h : Sep S w W rs) (i : Nat) {g : Nat} {t : TypeId} {x0 : Value} (hi : rs[i]? = some (.blk g t #[x0])) (v0 : Value) : ∃ W', (W.setCell ⟨g, 0, none⟩ v0) = W' ∧ Sep S w W' (rs.set i (.blk g t #[v0])) := by
  have hl : i < rs.length := by
    rcases Nat.lt_or_ge i rs.length with h1 | h1
    · exact h1
    · rw [List.getElem?_eq_none h1] at hi; cases hi
  have h2 := (h.set i hi 0 v0)
  
  exact ⟨_, rfl, h2⟩
theorem Sep.gset2 {S : List Nat} {w W : World} {rs : List Res} (h : Sep S w W rs) (i : Nat) {g : Nat} {t : TypeId} {x0 x1 : Value} (hi : rs[i]? = some (.blk g t #[x0, x1])) (v0 v1 : Value) : ∃ W', ((W.setCell ⟨g, 0, none⟩ v0).setCell ⟨g, 1, none⟩ v1) = W' ∧ Sep S w W' (rs.set i (.blk g t #[v0, v1])) := by
  have hl : i < rs.length := by
    rcases Nat.lt_or_ge i rs.length with h1 | h1
    · exact h1
    · rw [List.getElem?_eq_none h1] at hi; cases hi
  have h2 := ((h.set i hi 0 v0).set i (List.getElem?_set_self (by simpa using hl)) 1 v1)
  simp only [List.set_set] at h2
  exact ⟨_, rfl, h2⟩
theorem Sep.gset3 {S : List Nat} {w W : World} {rs : List Res} (h : Sep S w W rs) (i : Nat) {g : Nat} {t : TypeId} {x0 x1 x2 : Value} (hi : rs[i]? = some (.blk g t #[x0, x1, x2])) (v0 v1 v2 : Value) : ∃ W', (((W.setCell ⟨g, 0, none⟩ v0).setCell ⟨g, 1, none⟩ v1).setCell ⟨g, 2, none⟩ v2) = W' ∧ Sep S w W' (rs.set i (.blk g t #[v0, v1, v2])) := by
  have hl : i < rs.length := by
    rcases Nat.lt_or_ge i rs.length with h1 | h1
    · exact h1
    · rw [List.getElem?_eq_none h1] at hi; cases hi
  have h2 := (((h.set i hi 0 v0).set i (List.getElem?_set_self (by simpa using hl)) 1 v1).set i (List.getElem?_set_self (by simpa using hl)) 2 v2)
  simp only [List.set_set] at h2
  exact ⟨_, rfl, h2⟩
theorem Sep.gset4 {S : List Nat} {w W : World} {rs : List Res} (h : Sep S w W rs) (i : Nat) {g : Nat} {t : TypeId} {x0 x1 x2 x3 : Value} (hi : rs[i]? = some (.blk g t #[x0, x1, x2, x3])) (v0 v1 v2 v3 : Value) : ∃ W', ((((W.setCell ⟨g, 0, none⟩ v0).setCell ⟨g, 1, none⟩ v1).setCell ⟨g, 2, none⟩ v2).setCell ⟨g, 3, none⟩ v3) = W' ∧ Sep S w W' (rs.set i (.blk g t #[v0, v1, v2, v3])) := by
  have hl : i < rs.length := by
    rcases Nat.lt_or_ge i rs.length with h1 | h1
    · exact h1
    · rw [List.getElem?_eq_none h1] at hi; cases hi
  have h2 := ((((h.set i hi 0 v0).set i (List.getElem?_set_self (by simpa using hl)) 1 v1).set i (List.getElem?_set_self (by simpa using hl)) 2 v2).set i (List.getElem?_set_self (by simpa using hl)) 3 v3)
  simp only [List.set_set] at h2
  exact ⟨_, rfl, h2⟩
theorem Sep.gset5 {S : List Nat} {w W : World} {rs : List Res} (h : Sep S w W rs) (i : Nat) {g : Nat} {t : TypeId} {x0 x1 x2 x3 x4 : Value} (hi : rs[i]? = some (.blk g t #[x0, x1, x2, x3, x4])) (v0 v1 v2 v3 v4 : Value) : ∃ W', (((((W.setCell ⟨g, 0, none⟩ v0).setCell ⟨g, 1, none⟩ v1).setCell ⟨g, 2, none⟩ v2).setCell ⟨g, 3, none⟩ v3).setCell ⟨g, 4, none⟩ v4) = W' ∧ Sep S w W' (rs.set i (.blk g t #[v0, v1, v2, v3, v4])) := by
  have hl : i < rs.length := by
    rcases Nat.lt_or_ge i rs.length with h1 | h1
    · exact h1
    · rw [List.getElem?_eq_none h1] at hi; cases hi
  have h2 := (((((h.set i hi 0 v0).set i (List.getElem?_set_self (by simpa using hl)) 1 v1).set i (List.getElem?_set_self (by simpa using hl)) 2 v2).set i (List.getElem?_set_self (by simpa using hl)) 3 v3).set i (List.getElem?_set_self (by simpa using hl)) 4 v4)
  simp only [List.set_set] at h2
  exact ⟨_, rfl, h2⟩
theorem Sep.galloc {S : List Nat} {w W : World} {rs : List Res} (h : Sep S w W rs) (t : TypeId) (cs : Array Value) : ∃ W', W.alloc (.cells cs t) = W' ∧ Sep S w W' (.blk W.heap.size t cs :: rs) := ⟨_, rfl, h.allocN t cs⟩
end Go.Proofs.Ytgncjcnobojgbaa

namespace Go.Proofs.Ytgncjcnobojgbaa
open Go.RowKit
set_option linter.unusedVariables false

theorem run_append_row {P : Program} {w : World} (base : Nat) (t ty e : TypeId) (i : TypeInfo) (z : Value) (size bytes : Nat) (ht : P.underlying t = some (.slice e)) (hi : P.info? e = some i) (hz : i.zero = some z)
    (hsize : i.size = size) (hby : i.bytes = bytes) (hzs : z.cells.size = size) (hsz : 0 < size) (v : Value) (n : Nat) (xs : List Value) (hown : w.ownsRow base e size v n xs)
    (sp : Option Addr) (m c : Nat) (news : List Value) (hl : news.length = m * size) (hrow : Row w sp news) (h1 : ∀ u ∈ news, u.oneCell' = true)
    (h63 : n + m ≤ maxLen) (hbytes : (n + m) * bytes ≤ 140737488355328) (hbase : base ≤ w.heap.size) :
    ∃ v' w', (Builtin.append_ #[t, t] ty #[v, .slice sp m c]).run P w = .ok v' w' ∧ w'.ownsRow base e size v' (n + m) (xs ++ news) ∧ w.grownBy w' v.ownBlock ∧ (v' = .slice none 0 0 ↔ v = .slice none 0 0 ∧ m = 0) := by
  rcases Nat.eq_zero_or_pos news.length with h0 | h0
  · have hm : m = 0 := by
      rcases Nat.eq_zero_or_pos m with h | h
      · exact h
      · have := Nat.mul_pos h hsz; omega
    obtain rfl : news = [] := List.eq_nil_of_length_eq_zero h0
    subst hm
    cases sp with
    | some a => exact run_append_own w base t ty e i z size bytes ht hi hz hsize hby hzs hsz v n xs hown a 0 c [] (by simp) (by simp) h1 h63 hbytes hbase
    | none =>
      refine ⟨v, w, ?_, by simpa using hown, World.grownBy.refl _ _, by simp⟩
      rcases hown.2 with ⟨rfl, rfl⟩ | ⟨g, cap, cur, rfl, _, _, hnc, _⟩
      · simp [Builtin.append_, run_underlying ht, sizeOf, typeInfo, hi, Builtin.lenOf, Builtin.firstCells]
      · simp [Builtin.append_, run_underlying ht, sizeOf, typeInfo, hi, Builtin.lenOf, Builtin.firstCells, hnc, storeCells]
  · obtain ⟨b, off, rfl, hc⟩ := hrow h0
    refine run_append_own w base t ty e i z size bytes ht hi hz hsize hby hzs hsz v n xs hown ⟨b, off, none⟩ m c news hl (fun j u hu => ?_) h1 h63 hbytes hbase
    rw [show (⟨b, off, none⟩ : Addr).add j = ⟨b, off + j, none⟩ from by unfold Addr.add; split <;> simp_all]
    exact hc j u hu

theorem wpList_append_row {P : Program} {w : World} {ops : Array Oper} {rest : List Oper} {o : Oper} {a : Act} {Q : Exit → Act → World → Prop} (hgd : o.guard = none) (s x : Operand) (t : TypeId)
    (ho : o.op = .call { callee := .builtin .append, args := #[s, x], argTypes := #[t, t] })
    (base : Nat) (e : TypeId) (i : TypeInfo) (z : Value) (size bytes : Nat) (ht : P.underlying t = some (.slice e)) (hi : P.info? e = some i) (hz : i.zero = some z)
    (hsize : i.size = size) (hby : i.bytes = bytes) (hzs : z.cells.size = size) (hsz : 0 < size)
    (v : Value) (n : Nat) (xs : List Value) (hs : a.eval s = v) (hown : w.ownsRow base e size v n xs)
    (sp : Option Addr) (m c : Nat) (news : List Value) (hx : a.eval x = .slice sp m c) (hl : news.length = m * size) (hrow : Row w sp news) (h1 : ∀ u ∈ news, u.oneCell' = true)
    (h63 : n + m ≤ maxLen) (hbytes : (n + m) * bytes ≤ 140737488355328) (hbase : base ≤ w.heap.size)
    (h : ∀ v' w', w'.ownsRow base e size v' (n + m) (xs ++ news) → w.grownBy w' v.ownBlock → (v' = .slice none 0 0 ↔ v = .slice none 0 0 ∧ m = 0) → wpList P ops Q rest (a.put o.dst v') w') : wpList P ops Q (o :: rest) a w := by
  refine wpList_plain hgd fun K hK => ?_
  obtain ⟨v', w', hrun, r1, r2, r3⟩ := run_append_row (P := P) (w := w) base t o.type e i z size bytes ht hi hz hsize hby hzs hsz v n xs hown sp m c news hl hrow h1 h63 hbytes hbase
  unfold Oper.wp
  simp [execOp, ho, resolve, invoke, builtin, hs, hx, hrun, Result.andThen]
  exact hK _ _ (h v' w' r1 r2 r3)

theorem step_append_row {P : Program} {ops : Array Oper} {o : Oper} {a : Act} {w : World} {K : Act → World → Prop} {Q : Exit → Act → World → Prop} {E : Prop} (hgd : o.guard = none) (s x : Operand) (t : TypeId)
    (ho : o.op = .call { callee := .builtin .append, args := #[s, x], argTypes := #[t, t] })
    (base : Nat) (e : TypeId) (i : TypeInfo) (z : Value) (size bytes : Nat) (ht : P.underlying t = some (.slice e)) (hi : P.info? e = some i) (hz : i.zero = some z)
    (hsize : i.size = size) (hby : i.bytes = bytes) (hzs : z.cells.size = size) (hsz : 0 < size)
    (v : Value) (n : Nat) (xs : List Value) (hs : a.eval s = v) (hown : w.ownsRow base e size v n xs)
    (sp : Option Addr) (m c : Nat) (news : List Value) (hx : a.eval x = .slice sp m c) (hl : news.length = m * size) (hrow : Row w sp news) (h1 : ∀ u ∈ news, u.oneCell' = true)
    (h63 : n + m ≤ maxLen) (hbytes : (n + m) * bytes ≤ 140737488355328) (hbase : base ≤ w.heap.size)
    (h : ∀ v' w', w'.ownsRow base e size v' (n + m) (xs ++ news) → w.grownBy w' v.ownBlock → (v' = .slice none 0 0 ↔ v = .slice none 0 0 ∧ m = 0) → K (a.put o.dst v') w') :
    if Region.wanted o (yielded ops a.tmps) = true then Oper.wp P o a w K Q else E := by
  have hw : Region.wanted o (yielded ops a.tmps) = true := by simp [Region.wanted, hgd]
  rw [if_pos hw]
  obtain ⟨v', w', hrun, r1, r2, r3⟩ := run_append_row (P := P) (w := w) base t o.type e i z size bytes ht hi hz hsize hby hzs hsz v n xs hown sp m c news hl hrow h1 h63 hbytes hbase
  unfold Oper.wp
  simp [execOp, ho, resolve, invoke, builtin, hs, hx, hrun, Result.andThen]
  exact h v' w' r1 r2 r3

/-- append to an empty literal: the row is a row of one's own. -/
theorem step_append_lit {P : Program} {ops : Array Oper} {o : Oper} {a : Act} {w : World} {K : Act → World → Prop} {Q : Exit → Act → World → Prop} {E : Prop} (hgd : o.guard = none) (s x : Operand) (t : TypeId)
    (ho : o.op = .call { callee := .builtin .append, args := #[s, x], argTypes := #[t, t] })
    (lo : Nat) (e : TypeId) (i : TypeInfo) (z : Value) (size bytes : Nat) (ht : P.underlying t = some (.slice e)) (hi : P.info? e = some i) (hz : i.zero = some z)
    (hsize : i.size = size) (hby : i.bytes = bytes) (hzs : z.cells.size = size) (hsz : 0 < size)
    (a0 : Nat) (hs : a.eval s = .slice (some ⟨a0, 0, none⟩) 0 0) (hl : Blk w a0 e #[]) (hlo : lo ≤ a0)
    (sp : Option Addr) (m c : Nat) (news : List Value) (hx : a.eval x = .slice sp m c) (hn : news.length = m * size) (hrow : Row w sp news) (h1 : ∀ u ∈ news, u.oneCell' = true)
    (h63 : m ≤ maxLen) (hbytes : m * bytes ≤ 140737488355328)
    (h : ∀ g c' w', Blk w a0 e #[] → OwnR w' lo w'.heap.size e size (.slice (some ⟨g, 0, none⟩) m c') m news → w.grownBy w' (some a0) → K (a.put o.dst (.slice (some ⟨g, 0, none⟩) m c')) w') :
    if Region.wanted o (yielded ops a.tmps) = true then Oper.wp P o a w K Q else E := by
  have hown : w.ownsRow lo e size (.slice (some ⟨a0, 0, none⟩) 0 0) 0 [] := ⟨by simp, .inr ⟨a0, 0, #[], rfl, hlo, hl, Nat.le_refl _, Nat.zero_le _, by simp, by simp⟩⟩
  refine step_append_row hgd s x t ho lo e i z size bytes ht hi hz hsize hby hzs hsz (.slice (some ⟨a0, 0, none⟩) 0 0) 0 [] hs hown sp m c news hx hn hrow h1 (by omega) (by rw [Nat.zero_add]; exact hbytes) (by have := hl.lt; omega) ?_
  intro v' w' r1 r2 r3
  rw [Nat.zero_add, List.nil_append] at r1
  rcases r1.2 with ⟨e1, _⟩ | ⟨g, cap, cur, e1, h2, h3, h4, h5, h6, h7⟩
  · exact absurd (r3.1 e1).1 (by simp)
  · subst e1
    exact h g cap w' hl (OwnR.of r1 (Nat.le_refl _)) r2
theorem OwnR.grownT {w w' : World} {lo hi a0 : Nat} {e t : TypeId} {size n : Nat} {v : Value} {xs : List Value} (h : OwnR w lo hi e size v n xs) (hl : Blk w a0 t #[]) (hne : e ≠ t) (hg : w.grownBy w' (some a0)) : OwnR w' lo hi e size v n xs :=
  ⟨h.1.kept hg (.inr (own_blk_ne h.1 hl hne)), h.2⟩

/-- A row cut at its end, and at its head. -/
theorem Own.cut {w : World} {base : Nat} {e : TypeId} {size g n c k : Nat} {xs : List Value} (h : w.ownsRow base e size (.slice (some ⟨g, 0, none⟩) n c) n xs) (hk : k ≤ n) : w.ownsRow base e size (.slice (some ⟨g, 0, none⟩) k c) k (xs.take (k * size)) := by
  rcases h.2 with ⟨hv, _⟩ | ⟨g', cap, cur, hv, hb, hh, h1, h2, h3, h4⟩
  · cases hv
  · injection hv with e1 e2 e3
    injection e1 with e1
    injection e1 with e1
    subst e1 e3
    have hle : k * size ≤ n * size := Nat.mul_le_mul_right _ hk
    refine ⟨by rw [List.length_take, h.1]; omega, .inr ⟨g, c, cur, rfl, hb, hh, by omega, h2, h3, ?_⟩⟩
    rw [← h4, List.take_take]; congr 1; omega
theorem Row.tail {w : World} {g k : Nat} {xs : List Value} (h : Row w (some ⟨g, 0, none⟩) xs) (A : Option Addr) (hA : k < xs.length → A = some ⟨g, k, none⟩) : Row w A (xs.drop k) := by
  intro hl
  rw [List.length_drop] at hl
  obtain ⟨b, off, e, hc⟩ := h (by omega)
  injection e with e; injection e with e1 e2; subst e1 e2
  refine ⟨g, k, hA (by omega), fun j u hu => ?_⟩
  rw [List.getElem?_drop] at hu
  have := hc _ u hu
  rwa [Nat.zero_add] at this
end Go.Proofs.Ytgncjcnobojgbaa

namespace Go.Proofs.Ytgncjcnobojgbaa
open Go.RowKit

def runM : List T7 → Int → Int → Int
  | [], _, _ => -1
  | t :: r, w, i => if t.s = 2 ∧ t.o = w then i else runM r w (i + 1)
def countM : List T7 → Int → Nat
  | [], _ => 0
  | t :: r, s => if t.s = s then countM r s + 1 else countM r s
theorem countM_le (ts : List T7) (s : Int) : countM ts s ≤ ts.length := by
  induction ts with
  | nil => simp [countM]
  | cons t r ih => simp only [countM, List.length_cons]; split <;> omega
theorem countM_take (ts : List T7) (s : Int) (k : Nat) : countM (ts.take k) s + countM (ts.drop k) s = countM ts s := by
  induction ts generalizing k with
  | nil => simp [countM]
  | cons t r ih =>
    cases k with
    | zero => simp [countM]
    | succ k => simp only [List.take_succ_cons, List.drop_succ_cons, countM]; have := ih k; split <;> omega
/-- A pool behind a pointer. -/
def PoolPtr (w : World) (g : Nat) (ts : List T7) (n1 n2 : Nat) (A0 A1 A2 : Option Addr) (c0 c1 c2 : Nat) (tn : Int) (st : Bool) : Prop :=
  Blk w g 34 #[.slice A0 ts.length c0, .slice A1 n1 c1, .slice A2 n2 c2, .int .i64 tn, .bool st]

set_option maxHeartbeats 1000000 in
theorem sRunBy_any (ts : List T7) (A0 A1 A2 : Option Addr) (c0 n1 c1 n2 c2 : Nat) (tn : Int) (st : Bool) (wk : Int) (w : World) (hlen : ts.length ≤ 1048576) (h0 : Row w A0 (tcells ts)) :
    Calls Try.prog 18 #[.agg #[.slice A0 ts.length c0, .slice A1 n1 c1, .slice A2 n2 c2, .int .i64 tn, .bool st], .int .i64 wk] w fun r w' => r = .returned (.int .i64 (runM ts wk 0)) ∧ Below w.heap.size w w' := by
  have H0 := hide h0
  clear h0
  go_enter Try.func18, Try.ntmps18
  go_wp2
  go_loopw [5] (fun i wr => ∃ (k : Nat), k ≤ ts.length ∧ i = .int .i64 k ∧ runM ts wk 0 = runM (ts.drop k) wk k ∧ Below w.heap.size w wr ∧ Blk wr w.heap.size 34 #[.slice A0 ts.length c0, .slice A1 n1 c1, .slice A2 n2 c2, .int .i64 tn, .bool st]) (fun i _ => ts.length - (intOf i).toNat)
  case atStart => exact ⟨0, Nat.zero_le _, rfl, rfl, by go_grown, Blk.new _ _ _⟩
  case round =>
    obtain ⟨k, hk, rfl, hm, hbel, hblk⟩ := hrel
    have hsz := hbel.size
    have d0 : wr.cell? ⟨w.heap.size, 0, none⟩ = some (.slice A0 ts.length c0) := hblk.cell 0
    have Hm := hide hm
    clear hm
    by_cases hlt : k < ts.length
    · obtain ⟨b, off, s, l, o, wt, on, v, t, rfl, hd, _, _, z0, z1, z2, z3, z4, z5, z6⟩ := (H0.out.below hbel).ts_at hlt
      have Hd := hide hd
      clear hd
      by_cases h1 : s = 2
      · by_cases h2 : o = wk
        · go_wp2
          go_ret
          refine ⟨?_, by go_grown⟩
          rw [Hm.out, Hd.out]; simp [runM, h1, h2]
        · go_wp2
          go_roundw
          case rel => exact ⟨k + 1, by omega, by go_num, by rw [Hm.out, Hd.out]; simp [runM, h1, h2], by go_grown, hblk⟩
          case measure => simp [intOf]; omega
      · go_wp2
        go_roundw
        case rel => exact ⟨k + 1, by omega, by go_num, by rw [Hm.out, Hd.out]; simp [runM, h1], by go_grown, hblk⟩
        case measure => simp [intOf]; omega
    · go_wp2
      go_ret
      obtain rfl : k = ts.length := by omega
      refine ⟨?_, by go_grown⟩
      rw [Hm.out]; simp [runM]

set_option maxHeartbeats 1000000 in
theorem runBy_any (ts : List T7) (A0 A1 A2 : Option Addr) (c0 n1 c1 n2 c2 : Nat) (tn : Int) (st : Bool) (wk : Int) (g : Nat) (w : World) (hlen : ts.length ≤ 1048576) (hg : Blk w g 34 #[.slice A0 ts.length c0, .slice A1 n1 c1, .slice A2 n2 c2, .int .i64 tn, .bool st]) (h0 : Row w A0 (tcells ts)) :
    Calls Try.prog 54 #[.pointer (some ⟨g, 0, none⟩), .int .i64 wk] w fun r w' => r = .returned (.int .i64 (runM ts wk 0)) ∧ Below w.heap.size w w' := by
  have H0 := hide h0
  clear h0
  have d0 : w.cell? ⟨g, 0, none⟩ = some (.slice A0 ts.length c0) := hg.cell 0
  go_enter Try.func54, Try.ntmps54
  go_wp2
  go_loopw [12] (fun i wr => ∃ (k : Nat), k ≤ ts.length ∧ i = .int .i64 k ∧ runM ts wk 0 = runM (ts.drop k) wk k ∧ Below w.heap.size w wr) (fun i _ => ts.length - (intOf i).toNat)
  case atStart => exact ⟨0, Nat.zero_le _, rfl, rfl, Below.refl _ _⟩
  case round =>
    obtain ⟨k, hk, rfl, hm, hbel⟩ := hrel
    have hsz := hbel.size
    have Hm := hide hm
    clear hm
    by_cases hlt : k < ts.length
    · obtain ⟨b, off, s, l, o, wt, on, v, t, rfl, hd, _, _, z0, z1, z2, z3, z4, z5, z6⟩ := (H0.out.below hbel).ts_at hlt
      have Hd := hide hd
      clear hd
      by_cases h1 : s = 2
      · by_cases h2 : o = wk
        · go_wp2
          go_ret
          refine ⟨?_, by go_grown⟩
          rw [Hm.out, Hd.out]; simp [runM, h1, h2]
        · go_wp2
          go_roundw
          case rel => exact ⟨k + 1, by omega, by go_num, by rw [Hm.out, Hd.out]; simp [runM, h1, h2], by go_grown⟩
          case measure => simp [intOf]; omega
      · go_wp2
        go_roundw
        case rel => exact ⟨k + 1, by omega, by go_num, by rw [Hm.out, Hd.out]; simp [runM, h1], by go_grown⟩
        case measure => simp [intOf]; omega
    · go_wp2
      go_ret
      obtain rfl : k = ts.length := by omega
      refine ⟨?_, by go_grown⟩
      rw [Hm.out]; simp [runM]

set_option maxHeartbeats 1000000 in
theorem countOf_any (ts : List T7) (A0 A1 A2 : Option Addr) (c0 n1 c1 n2 c2 : Nat) (tn : Int) (st : Bool) (sv : Int) (g : Nat) (w : World) (hlen : ts.length ≤ 1048576) (hg : Blk w g 34 #[.slice A0 ts.length c0, .slice A1 n1 c1, .slice A2 n2 c2, .int .i64 tn, .bool st]) (h0 : Row w A0 (tcells ts)) :
    Calls Try.prog 53 #[.pointer (some ⟨g, 0, none⟩), .int .i64 sv] w fun r w' => r = .returned (.int .i64 (countM ts sv : Nat)) ∧ Below w.heap.size w w' := by
  have H0 := hide h0
  clear h0
  have d0 : w.cell? ⟨g, 0, none⟩ = some (.slice A0 ts.length c0) := hg.cell 0
  go_enter Try.func53, Try.ntmps53
  go_wp2
  go_loopw [5, 13] (fun n i wr => ∃ (k : Nat), k ≤ ts.length ∧ i = .int .i64 k ∧ n = .int .i64 (countM (ts.take k) sv : Nat) ∧ Below w.heap.size w wr) (fun _ i _ => ts.length - (intOf i).toNat)
  case atStart => exact ⟨0, Nat.zero_le _, rfl, by simp [countM], Below.refl _ _⟩
  case round =>
    obtain ⟨k, hk, rfl, rfl, hbel⟩ := hrel
    have hsz := hbel.size
    have hcl := countM_le (ts.take k) sv
    rw [List.length_take] at hcl
    have htk := countM_take ts sv k
    by_cases hlt : k < ts.length
    · obtain ⟨b, off, s, l, o, wt, on, v, t, rfl, hd, _, _, z0, z1, z2, z3, z4, z5, z6⟩ := (H0.out.below hbel).ts_at hlt
      have htk1 := countM_take ts sv (k + 1)
      rw [hd] at htk
      simp only [countM] at htk
      clear hd
      by_cases h1 : s = sv
      · rw [if_pos h1] at htk
        have hct : countM (ts.take (k + 1)) sv = countM (ts.take k) sv + 1 := by omega
        have Hc := hide hct
        generalize countM (ts.take k) sv = m at *
        clear htk htk1 hct
        go_wp2
        go_roundw
        case rel => exact ⟨k + 1, by omega, by go_num, by rw [Hc.out]; go_num, by go_grown⟩
        case measure => simp [intOf]; omega
      · rw [if_neg h1] at htk
        have hct : countM (ts.take (k + 1)) sv = countM (ts.take k) sv := by omega
        have Hc := hide hct
        generalize countM (ts.take k) sv = m at *
        clear htk htk1 hct
        go_wp2
        go_roundw
        case rel => exact ⟨k + 1, by omega, by go_num, by rw [Hc.out], by go_grown⟩
        case measure => simp [intOf]; omega
    · obtain rfl : k = ts.length := by omega
      clear htk hcl
      rw [List.take_length]
      go_wp2
      go_ret
      exact ⟨rfl, by go_grown⟩

set_option maxHeartbeats 1000000 in
theorem gRunBy_any (ts : List T7) (A0 A1 A2 : Option Addr) (c0 n1 c1 n2 c2 : Nat) (tn : Int) (st : Bool) (wk : Int) (w : World) (hlen : ts.length ≤ 1048576) (h0 : Row w A0 (tcells ts)) :
    Calls Try.prog 17 #[.agg #[.slice A0 ts.length c0, .slice A1 n1 c1, .slice A2 n2 c2, .int .i64 tn, .bool st], .int .i64 wk] w fun r w' => r = .returned (.int .i64 (runM ts wk 0)) ∧ Below w.heap.size w w' := by
  have H0 := hide h0
  clear h0
  go_enter Try.func17, Try.ntmps17
  go_wp2_with fail
  go_call (runBy_any ts A0 A1 A2 c0 n1 c1 n2 c2 tn st wk w.heap.size _ hlen (Blk.new _ _ _) (H0.out.below (by go_grown))) as r w1 ⟨rfl, hb1⟩
  go_wp2_with fail
  go_ret
  exact ⟨rfl, Below.trans (by go_grown) (hb1.mono (by go_size))⟩

set_option maxHeartbeats 1000000 in
theorem gCountOf_any (ts : List T7) (A0 A1 A2 : Option Addr) (c0 n1 c1 n2 c2 : Nat) (tn : Int) (st : Bool) (sv : Int) (w : World) (hlen : ts.length ≤ 1048576) (h0 : Row w A0 (tcells ts)) :
    Calls Try.prog 16 #[.agg #[.slice A0 ts.length c0, .slice A1 n1 c1, .slice A2 n2 c2, .int .i64 tn, .bool st], .int .i64 sv] w fun r w' => r = .returned (.int .i64 (countM ts sv : Nat)) ∧ Below w.heap.size w w' := by
  have H0 := hide h0
  clear h0
  go_enter Try.func16, Try.ntmps16
  go_wp2_with fail
  go_call (countOf_any ts A0 A1 A2 c0 n1 c1 n2 c2 tn st sv w.heap.size _ hlen (Blk.new _ _ _) (H0.out.below (by go_grown))) as r w1 ⟨rfl, hb1⟩
  go_wp2_with fail
  go_ret
  exact ⟨rfl, Below.trans (by go_grown) (hb1.mono (by go_size))⟩
end Go.Proofs.Ytgncjcnobojgbaa

namespace Go.Proofs.Ytgncjcnobojgbaa
open Go.RowKit
set_option linter.unusedVariables false

def aheadB (s t : T7) (a b : Int) : Bool := if s.l = t.l then (if s.t = t.t then decide (a < b) else decide (s.t < t.t)) else decide (t.l < s.l)
def posDown (P : Int → Bool) (xs : List Int) : Nat → Nat
  | 0 => 0
  | k + 1 => if P (xs.getD k 0) then posDown P xs k else k + 1
def insAt (xs : List Int) (k : Nat) (i : Int) : List Int := (xs.take k ++ [i]) ++ xs.drop k
def lineM (q : Nat → Bool) (P : Nat → Int → Bool) : Nat → List Int
  | 0 => []
  | k + 1 => if q k then insAt (lineM q P k) (posDown (P k) (lineM q P k) (lineM q P k).length) k else lineM q P k
def taskAt (ts : List T7) (j : Int) : T7 := ts.getD j.toNat default
def readyQ (ts : List T7) (k : Nat) : Bool := (ts.getD k default).s == 1
def readyP (ts : List T7) (k : Nat) (j : Int) : Bool := aheadB (ts.getD k default) (taskAt ts j) k j
def readyM (ts : List T7) : List Int := lineM (readyQ ts) (readyP ts) ts.length
def waitQ (ts : List T7) (wt on : Int) (k : Nat) : Bool := (ts.getD k default).s == 3 && ((ts.getD k default).wt == wt && (ts.getD k default).on == on)
def waitP (ts : List T7) (k : Nat) (j : Int) : Bool := decide ((ts.getD k default).t < (taskAt ts j).t)
def waitersM (ts : List T7) (wt on : Int) : List Int := lineM (waitQ ts wt on) (waitP ts) ts.length
theorem posDown_le (P : Int → Bool) (xs : List Int) (k : Nat) : posDown P xs k ≤ k := by
  induction k with
  | zero => simp [posDown]
  | succ k ih => simp only [posDown]; split <;> omega
theorem insAt_length (xs : List Int) (k : Nat) (i : Int) (hk : k ≤ xs.length) : (insAt xs k i).length = xs.length + 1 := by simp [insAt]; omega
theorem lineM_length (q : Nat → Bool) (P : Nat → Int → Bool) (k : Nat) : (lineM q P k).length ≤ k := by
  induction k with
  | zero => simp [lineM]
  | succ k ih =>
    simp only [lineM]; split
    · rw [insAt_length _ _ _ (posDown_le _ _ _)]; omega
    · omega
theorem lineM_mem (q : Nat → Bool) (P : Nat → Int → Bool) (k : Nat) : ∀ x ∈ lineM q P k, ∃ j : Nat, x = j ∧ j < k := by
  induction k with
  | zero => simp [lineM]
  | succ k ih =>
    simp only [lineM]; split
    · intro x hx
      simp only [insAt, List.mem_append, List.mem_singleton] at hx
      rcases hx with (hx | rfl) | hx
      · obtain ⟨j, h1, h2⟩ := ih x (List.mem_of_mem_take hx); exact ⟨j, h1, by omega⟩
      · exact ⟨k, rfl, by omega⟩
      · obtain ⟨j, h1, h2⟩ := ih x (List.mem_of_mem_drop hx); exact ⟨j, h1, by omega⟩
    · intro x hx; obtain ⟨j, h1, h2⟩ := ih x hx; exact ⟨j, h1, by omega⟩
theorem icells_drop (xs : List Int) (k : Nat) : (icells xs).drop k = icells (xs.drop k) := by simp [icells, List.map_drop]
theorem icells_take (xs : List Int) (k : Nat) : (icells xs).take (k * 1) = icells (xs.take k) := by rw [Nat.mul_one]; simp [icells, List.map_take]
theorem icells_app (xs ys : List Int) : icells xs ++ icells ys = icells (xs ++ ys) := by simp [icells]
theorem getD_of {ts : List T7} {k : Nat} {x : T7} (h : ts[k]? = some x) : ts.getD k default = x := by rw [List.getD_eq_getElem?_getD, h]; rfl
theorem taskAt_of {ts : List T7} {k : Nat} {x : T7} (h : ts[k]? = some x) : taskAt ts (k : Int) = x := by simp only [taskAt, Int.toNat_natCast]; exact getD_of h
theorem Row.tailI {w : World} {g k : Nat} {xs : List Int} {A : Option Addr} (h : Row w (some ⟨g, 0, none⟩) (icells xs)) (hA : k < xs.length → A = some ⟨g, k, none⟩) : Row w A (icells (xs.drop k)) := by
  rw [← icells_drop]; exact h.tail A (fun hk => hA (by rw [icells_length] at hk; exact hk))
theorem Own.cutI {w : World} {base g n c k : Nat} {e : TypeId} {xs : List Int} (h : w.ownsRow base e 1 (.slice (some ⟨g, 0, none⟩) n c) n (icells xs)) (hk : k ≤ n) : w.ownsRow base e 1 (.slice (some ⟨g, 0, none⟩) k c) k (icells (xs.take k)) := by
  rw [← icells_take]; exact Own.cut h hk
theorem rowOne (w : World) (v : Int) (t : TypeId) : Row (w.alloc (.cells #[.int .i64 v] t)) (some ⟨w.heap.size, 0, none⟩) (icells [v]) :=
  Row.of_own (World.ownsRow_lit (base := 0) (e := t) (size := 1) w #[.int .i64 v] 1 (Nat.zero_le _) (by simp [maxLen]) (by simp))
theorem rowGrown {w w' : World} {base : Nat} {e : TypeId} {size g n c r : Nat} {xs : List Value} (h : w.ownsRow base e size (.slice (some ⟨g, 0, none⟩) n c) n xs) (hg : w.grownBy w' (some r)) (hne : g ≠ r) : w'.ownsRow base e size (.slice (some ⟨g, 0, none⟩) n c) n xs :=
  h.kept hg (.inr (by simp only [Value.ownBlock]; intro e; injection e with e; exact hne e))
theorem own_cap {w : World} {base : Nat} {e : TypeId} {size g n c : Nat} {xs : List Value} (h : w.ownsRow base e size (.slice (some ⟨g, 0, none⟩) n c) n xs) : n ≤ c := by
  rcases h.2 with ⟨hv, _⟩ | ⟨g', cap, cur, hv, _, _, h1, _⟩
  · cases hv
  · injection hv with _ _ e3
    omega
theorem own_ins {w : World} {base g n c : Nat} {e : TypeId} {zs : List Value} {ys : List Int} (h : w.ownsRow base e 1 (.slice (some ⟨g, 0, none⟩) n c) n zs) (hz : zs = icells ys) : w.ownsRow base e 1 (.slice (some ⟨g, 0, none⟩) ys.length c) ys.length (icells ys) ∧ n = ys.length := by
  subst hz
  have hn : n = ys.length := by have := h.1; rw [icells_length] at this; omega
  subst hn
  exact ⟨h, rfl⟩
/-- What a row that is not nil looks like. -/
theorem Own.shape {w : World} {base : Nat} {e : TypeId} {size n : Nat} {v : Value} {xs : List Value} (h : w.ownsRow base e size v n xs) (hv : v ≠ .slice none 0 0) : ∃ g cap, v = .slice (some ⟨g, 0, none⟩) n cap ∧ base ≤ g ∧ g < w.heap.size := by
  rcases h.2 with ⟨h1, _⟩ | ⟨g, cap, cur, h1, h2, h3, _⟩
  · exact absurd h1 hv
  · exact ⟨g, cap, h1, h2, Blk.lt (t := e) (cs := cur) h3⟩

set_option maxHeartbeats 4000000 in
theorem l4Ahead_any (ts : List T7) (A0 A1 A2 : Option Addr) (c0 n1 c1 n2 c2 : Nat) (tn : Int) (st : Bool) (i j : Nat) (s l o wt on v t s2 l2 o2 wt2 on2 v2 t2 : Int) (w : World) (hlen : ts.length ≤ 1048576) (hi : ts[i]? = some ⟨s, l, o, wt, on, v, t⟩) (hj : ts[j]? = some ⟨s2, l2, o2, wt2, on2, v2, t2⟩) (h : Row w A0 (tcells ts)) :
    Calls Try.prog 66 #[.agg #[.slice A0 ts.length c0, .slice A1 n1 c1, .slice A2 n2 c2, .int .i64 tn, .bool st], .int .i64 i, .int .i64 j] w fun r w' => r = .returned (.bool (aheadB ⟨s, l, o, wt, on, v, t⟩ ⟨s2, l2, o2, wt2, on2, v2, t2⟩ i j)) ∧ Below w.heap.size w w' := by
  have hi1 : i < ts.length := by
    rcases Nat.lt_or_ge i ts.length with h1 | h1
    · exact h1
    · rw [List.getElem?_eq_none h1] at hi; cases hi
  have hj1 : j < ts.length := by
    rcases Nat.lt_or_ge j ts.length with h1 | h1
    · exact h1
    · rw [List.getElem?_eq_none h1] at hj; cases hj
  obtain ⟨b, off, a0, a1, a2, a3, a4, a5, a6, rfl, _, he, hb, y0, y1, y2, y3, y4, y5, y6⟩ := h.ts_at hi1
  rw [hi] at he
  injection he with he
  injection he with u0 u1 u2 u3 u4 u5 u6
  subst u0 u1 u2 u3 u4 u5 u6
  obtain ⟨b', off', a0, a1, a2, a3, a4, a5, a6, e1, _, he, hb', x0, x1, x2, x3, x4, x5, x6⟩ := h.ts_at hj1
  injection e1 with e1
  injection e1 with e1 e2
  subst e1 e2
  rw [hj] at he
  injection he with he
  injection he with u0 u1 u2 u3 u4 u5 u6
  subst u0 u1 u2 u3 u4 u5 u6
  clear hi hj h
  by_cases k1 : l = l2
  · by_cases k2 : t = t2
    · have e : aheadB ⟨s, l, o, wt, on, v, t⟩ ⟨s2, l2, o2, wt2, on2, v2, t2⟩ i j = decide ((i : Int) < j) := by simp [aheadB, k1, k2]
      rw [e]
      subst k1 k2
      go_enter Try.func66, Try.ntmps66
      go_wp2
      go_ret
      exact ⟨ret_bool (by simp), by go_grown⟩
    · have e : aheadB ⟨s, l, o, wt, on, v, t⟩ ⟨s2, l2, o2, wt2, on2, v2, t2⟩ i j = decide (t < t2) := by simp [aheadB, k1, k2]
      rw [e]
      subst k1
      go_enter Try.func66, Try.ntmps66
      go_wp2
      go_ret
      exact ⟨rfl, by go_grown⟩
  · have e : aheadB ⟨s, l, o, wt, on, v, t⟩ ⟨s2, l2, o2, wt2, on2, v2, t2⟩ i j = decide (l2 < l) := by simp [aheadB, k1]
    rw [e]
    go_enter Try.func66, Try.ntmps66
    go_wp2
    go_ret
    exact ⟨rfl, by go_grown⟩

theorem icells_oneL (ks : List Int) : ∀ v ∈ icells ks, v.oneCell' = true := by
  intro v hv
  obtain ⟨t, _, rfl⟩ := List.mem_map.1 hv
  rfl

set_option maxRecDepth 100000 in
set_option maxHeartbeats 8000000 in
theorem readyLine_any (ts : List T7) (A0 A1 A2 : Option Addr) (c0 n1 c1 n2 c2 : Nat) (tn : Int) (st : Bool) (w : World) (hlen : ts.length ≤ 1048576) (h : Row w A0 (tcells ts)) :
    Calls Try.prog 25 #[.agg #[.slice A0 ts.length c0, .slice A1 n1 c1, .slice A2 n2 c2, .int .i64 tn, .bool st]] w fun r w' => ∃ (A : Option Addr) (c : Nat), r = .returned (.slice A (readyM ts).length c) ∧ w'.ownsRow w.heap.size 2 1 (.slice A (readyM ts).length c) (readyM ts).length (icells (readyM ts)) ∧ Below w.heap.size w w' := by
  have H := hide h
  clear h
  obtain ⟨i0, hi, hz0, hz1, hz2⟩ := info_parts infoInt
  unfold readyM
  obtain ⟨L, hL⟩ : ∃ L : Nat → List Int, L = lineM (readyQ ts) (readyP ts) := ⟨_, rfl⟩
  rw [← hL]
  have HL := hide hL
  clear hL
  go_enter Try.func25, Try.ntmps25
  go_wp2
  have G := Below.refl w.heap.size w
  have kX := Blk.new w 34 #[.slice A0 ts.length c0, .slice A1 n1 c1, .slice A2 n2 c2, .int .i64 tn, .bool st]
  have hbs := G.size
  replace G := G.alloc (by omega) (.cells #[.slice A0 ts.length c0, .slice A1 n1 c1, .slice A2 n2 c2, .int .i64 tn, .bool st] 34)
  have z1 : (w.alloc (.cells #[.slice A0 ts.length c0, .slice A1 n1 c1, .slice A2 n2 c2, .int .i64 tn, .bool st] 34)).heap.size = w.heap.size + 1 := by simp
  clear hbs
  generalize w.alloc (.cells #[.slice A0 ts.length c0, .slice A1 n1 c1, .slice A2 n2 c2, .int .i64 tn, .bool st] 34) = W1 at kX G z1 ⊢
  have own0 := World.ownsRow_lit (base := w.heap.size + 1) (e := 2) (size := 1) W1 #[] 0 (by omega) (by simp [maxLen]) (by simp)
  replace kX := kX.alloc (.cells #[] 2)
  have hbs := G.size
  replace G := G.alloc (by omega) (.cells #[] 2)
  have z2 : (W1.alloc (.cells #[] 2)).heap.size = W1.heap.size + 1 := by simp
  generalize W1.alloc (.cells #[] 2) = W2 at kX G z2 own0 ⊢
  have hB := hide (⟨kX, G, G.size⟩ : _ ∧ _ ∧ w.heap.size ≤ W2.heap.size)
  have hw1 : w.heap.size + 1 ≤ W2.heap.size := by omega
  clear hbs kX
  go_loopw [3, 4] (fun v i wr => ∃ (k g cap : Nat), k ≤ ts.length ∧ i = .int .i64 k ∧ v = .slice (some ⟨g, 0, none⟩) (L k).length cap ∧ wr.ownsRow (w.heap.size + 1) 2 1 (.slice (some ⟨g, 0, none⟩) (L k).length cap) (L k).length (icells (L k)) ∧ Blk wr w.heap.size 34 #[.slice A0 ts.length c0, .slice A1 n1 c1, .slice A2 n2 c2, .int .i64 tn, .bool st] ∧ Below w.heap.size w wr) (fun _ i _ => ts.length - (intOf i).toNat)
  case atStart => exact ⟨0, W1.heap.size, 0, Nat.zero_le _, rfl, by rw [HL.out]; simp [lineM], by rw [HL.out]; simpa [lineM, icells] using own0, hB.out.1, G⟩
  case round =>
    clear G own0
    rename World => V
    obtain ⟨k, g, cap, hk, rfl, rfl, hown, kX, G⟩ := hrel
    have z0 := G.size
    by_cases hlt : k < ts.length
    · obtain ⟨b', off, s, l, o, wt, on, v, t, rfl, _, ht, hb', y0, y1, y2, y3, y4, y5, y6⟩ := (H.out.below G).ts_at hlt
      have Ht := hide ht
      clear ht
      by_cases hs : s = 1
      · have tX : w.heap.size < V.heap.size := kX.lt
        have qX0 : V.cell? ⟨w.heap.size, 0, none⟩ = some (.slice (some ⟨b', off, none⟩) ts.length c0) := kX.cell 0
        have qX1 : V.cell? ⟨w.heap.size, 1, none⟩ = some (.slice A1 n1 c1) := kX.cell 1
        have qX2 : V.cell? ⟨w.heap.size, 2, none⟩ = some (.slice A2 n2 c2) := kX.cell 2
        have qX3 : V.cell? ⟨w.heap.size, 3, none⟩ = some (.int .i64 tn) := kX.cell 3
        have qX4 : V.cell? ⟨w.heap.size, 4, none⟩ = some (.bool st) := kX.cell 4
        have hlen1 : (L k).length ≤ k := by rw [HL.out]; exact lineM_length _ _ _
        have hmem : Hid (∀ x ∈ L k, ∃ j : Nat, x = j ∧ j < k) := hide (by rw [HL.out]; exact lineM_mem _ _ _)
        obtain ⟨PP, hPP⟩ : ∃ PP : Int → Bool, PP = readyP ts k := ⟨_, rfl⟩
        have hLk : Hid (L (k + 1) = insAt (L k) (posDown PP (L k) (L k).length) k) := hide (by rw [hPP, HL.out]; simp only [lineM, readyQ, getD_of Ht.out]; simp [hs])
        have HPP := hide hPP
        clear hPP
        obtain ⟨xs, hxs⟩ : ∃ xs, xs = L k := ⟨_, rfl⟩
        rw [← hxs] at hown hlen1 hmem hLk ⊢
        clear hxs
        have H1 := hide (⟨hown, kX, G⟩ : _ ∧ _ ∧ _)
        have hgV : g < V.heap.size := (hown.lt g rfl).2
        have hgB : w.heap.size + 1 ≤ g := (hown.lt g rfl).1
        clear hown kX G y1 y2 y3 y4 y5 y6
        have hs1 : (s != 1) = false := by simp [hs]
        go_wp2_with fail
        go_loopw [5] (fun j wr => ∃ (q : Nat), q ≤ xs.length ∧ j = .int .i64 q ∧ posDown PP xs xs.length = posDown PP xs q ∧ Below V.heap.size V wr) (fun j _ => (intOf j).toNat)
        case atStart => exact ⟨xs.length, Nat.le_refl _, rfl, rfl, Below.refl _ _⟩
        case round =>
          rename World => U
          obtain ⟨q, hq, rfl, hpd, G2⟩ := hrel
          have Hpd := hide hpd
          clear hpd
          have kX := H1.out.2.1.below G2 H1.out.2.1.lt
          have ownU := Own.below H1.out.1 G2
          have zU := G2.size
          rcases Nat.eq_zero_or_pos q with hq0 | hq0
          · subst hq0
            have cX0 := KeptW.cell (W0 := U) (b := w.heap.size) (o := 0) (u := .slice (some ⟨b', off, none⟩) ts.length c0) (kX.cell 0)
            go_wp2_with fail
            have HG := hide (⟨G2, G2.size⟩ : Below V.heap.size V U ∧ V.heap.size ≤ U.heap.size)
            clear kX ownU G2 zU
            have hx0 := KeptW.mk'_w (Below.refl U.heap.size U)
            generalize KeptW.mk' (Below.refl U.heap.size U) = x at hx0
            rw [← hx0]
            clear hx0
            refine region_kept (by kernel_rfl) (by kernel_rfl) ?_
            repeat (go_big_quiet_step (fail))
            refine wpQuiet_nil ?_
            rintro _ ⟨x, rfl⟩
            obtain ⟨Z, hZ, GZ⟩ : ∃ Z, Z = x.w ∧ Below V.heap.size V Z := ⟨_, rfl, HG.out.1.trans (x.below.mono HG.out.2)⟩
            rw [← hZ]
            clear hZ x
            have hpos : Hid (posDown PP xs xs.length = 0) := hide (by rw [Hpd.out]; rfl)
            have ownZ := Own.below H1.out.1 GZ
            have zZ := GZ.size
            have hVw : w.heap.size + 1 ≤ V.heap.size := by omega
            go_wp2_with (first | (at_builtin; refine wpList_append_row rfl (.tmp 38) (.tmp 41) 31 rfl (Z.heap.size) 2 i0 (.int .i64 0) 1 8 Try.underlying31 hi hz0 hz1 hz2 rfl (by decide) (.slice (some ⟨Z.heap.size, 0, none⟩) 0 0) (0) ([]) rfl (World.ownsRow_lit (base := Z.heap.size) Z #[] 0 (Nat.le_refl _) (by simp [maxLen]) (by simp)) _ _ _ (icells (xs.drop 0)) rfl (by simp [icells] <;> omega) (Row.tailI (k := 0) (Row.of_own (ownZ.alloc _)) (by intro h; first | rfl | (simp; done))) (icells_oneL _) (by unfold maxLen; omega) (by omega) (by first | omega | (simp; done) | (simp; omega)) ?_; intro v1 Z1 hown1 hgr1 hiff1; obtain ⟨g1, cap1, hv1, hg1, hg1l⟩ := Own.shape hown1 (fun e => absurd (hiff1.1 e).1 (by simp)); subst hv1; have ownZ1 := rowGrown (r := Z.heap.size) (ownZ.alloc (.cells #[] 2)) hgr1 (by omega); have zz1 := hgr1.size; simp at zz1) | (at_builtin; refine wpList_append_row rfl (.tmp 45) (.tmp 47) 31 rfl (w.heap.size + 1) 2 i0 (.int .i64 0) 1 8 Try.underlying31 hi hz0 hz1 hz2 rfl (by decide) (.slice (some ⟨g, 0, none⟩) (0) cap) (0) (icells (xs.take 0)) rfl ((Own.cutI ownZ1 (by omega)).alloc _) _ _ _ (icells [(k : Int)]) rfl (by simp [icells] <;> omega) (rowOne _ _ _) (icells_oneL _) (by unfold maxLen; omega) (by omega) (by first | omega | (simp; done) | (simp; omega)) ?_; intro v2 Z2 hown2 hgr2 hiff2; obtain ⟨g2, cap2, hv2, hg2, hg2l⟩ := Own.shape hown2 (fun e => absurd (hiff2.1 e).1 (by simp)); subst hv2; have ownR2 := rowGrown (r := g) (hown1.alloc (.cells #[.int .i64 k] 2)) hgr2 (by omega); have zz2 := hgr2.size; simp at zz2) | (at_builtin; refine wpList_append_row rfl (.tmp 48) (.tmp 49) 31 rfl (w.heap.size + 1) 2 i0 (.int .i64 0) 1 8 Try.underlying31 hi hz0 hz1 hz2 rfl (by decide) (.slice (some ⟨g2, 0, none⟩) (0 + 1) cap2) (0 + 1) (icells (xs.take 0) ++ icells [(k : Int)]) rfl (hown2) _ _ _ (icells (xs.drop 0)) rfl (by simp [icells] <;> omega) (Row.of_own ownR2) (icells_oneL _) (by unfold maxLen; omega) (by omega) (by first | omega | (simp; done) | (simp; omega)) ?_; intro v3 Z3 hown3 hgr3 hiff3; obtain ⟨g3, cap3, hv3, hg3, hg3l⟩ := Own.shape hown3 (fun e => absurd (hiff3.1 e).1 (by simp)); subst hv3))
            go_roundw
            case rel =>
              obtain ⟨ho, hn⟩ := own_ins hown3 (ys := L (k + 1)) (by rw [hLk.out, hpos.out]; simp [insAt, icells])
              have kX0 := H1.out.2.1.below GZ H1.out.2.1.lt
              have kX1 := (kX0.alloc (.cells #[] 2)).grown (row := some Z.heap.size) hgr1 (by intro e; injection e; omega)
              have kX2 := (kX1.alloc (.cells #[.int .i64 k] 2)).grown (row := some g) hgr2 (by intro e; injection e; omega)
              have kX3 := kX2.grown (row := some g2) hgr3 (by intro e; injection e; omega)
              have G0 := H1.out.2.2.trans (GZ.mono (by omega))
              have G1 := Below.grown (row := some Z.heap.size) (G0.alloc (by omega) (.cells #[] 2)) hgr1 (by simp; omega) (by intro r e; injection e; omega)
              have G2 := Below.grown (row := some g) (G1.alloc (by omega) (.cells #[.int .i64 k] 2)) hgr2 (by simp; omega) (by intro r e; injection e; omega)
              have G3 := Below.grown (row := some g2) G2 hgr3 (by omega) (by intro r e; injection e; omega)
              exact ⟨k + 1, g3, cap3, by omega, by go_num, by congr 1; try omega, ho, kX3, G3⟩
            case measure => simp [intOf]; omega
          · obtain ⟨p, rfl⟩ : ∃ p, q = p + 1 := ⟨q - 1, by omega⟩
            have hp : p < xs.length := by omega
            obtain ⟨xv, hxv, yx⟩ := Own.i1 ownU (k := p) hp
            obtain ⟨j, rfl, hjk⟩ := hmem.out xv (List.mem_of_getElem? hxv)
            obtain ⟨s2, l2, o2, wt2, on2, v2, t2, hj⟩ : ∃ s l o wt on v t : Int, ts[j]? = some ⟨s, l, o, wt, on, v, t⟩ := ⟨_, _, _, _, _, _, _, by rw [List.getElem?_eq_getElem (by omega)]⟩
            have hPx : PP (xs.getD p 0) = aheadB ⟨s, l, o, wt, on, v, t⟩ ⟨s2, l2, o2, wt2, on2, v2, t2⟩ k j := by
              rw [HPP.out, List.getD_eq_getElem?_getD, hxv]
              simp only [Option.getD_some, readyP]
              rw [getD_of Ht.out, taskAt_of hj]
            have hstep : posDown PP xs (p + 1) = if PP (xs.getD p 0) then posDown PP xs p else p + 1 := rfl
            rw [hPx] at hstep
            have hj' := hide hj
            have hq1 : Hid (∀ x : KeptW U, Calls Try.prog 66 #[.agg #[.slice (some ⟨b', off, none⟩) ts.length c0, .slice A1 n1 c1, .slice A2 n2 c2, .int .i64 tn, .bool st], .int .i64 k, .int .i64 j] x.w fun r w' => r = .returned (.bool (aheadB ⟨s, l, o, wt, on, v, t⟩ ⟨s2, l2, o2, wt2, on2, v2, t2⟩ k j)) ∧ Below x.w.heap.size x.w w') := hide (fun x => l4Ahead_any ts (some ⟨b', off, none⟩) A1 A2 c0 n1 c1 n2 c2 tn st k j s l o wt on v t s2 l2 o2 wt2 on2 v2 t2 x.w hlen Ht.out hj'.out ((((H.out.below H1.out.2.2).below G2)).below x.below))
            have cX0 := KeptW.cell (W0 := U) (b := w.heap.size) (o := 0) (u := .slice (some ⟨b', off, none⟩) ts.length c0) (kX.cell 0)
            have cX1 := KeptW.cell (W0 := U) (b := w.heap.size) (o := 1) (u := .slice A1 n1 c1) (kX.cell 1)
            have cX2 := KeptW.cell (W0 := U) (b := w.heap.size) (o := 2) (u := .slice A2 n2 c2) (kX.cell 2)
            have cX3 := KeptW.cell (W0 := U) (b := w.heap.size) (o := 3) (u := .int .i64 tn) (kX.cell 3)
            have cX4 := KeptW.cell (W0 := U) (b := w.heap.size) (o := 4) (u := .bool st) (kX.cell 4)
            have cy := KeptW.cell (W0 := U) (b := g) (o := p) (u := .int .i64 j) yx
            have hcl : xs.length ≤ cap := own_cap H1.out.1
            have hcap : p + 1 ≤ cap := by
              have := own_cap H1.out.1
              omega
            generalize aheadB ⟨s, l, o, wt, on, v, t⟩ ⟨s2, l2, o2, wt2, on2, v2, t2⟩ k j = z at hq1 hstep
            have Hst := hide hstep
            clear hstep hPx hj hxv yx
            go_wp2_with fail
            have HG := hide (⟨G2, G2.size⟩ : Below V.heap.size V U ∧ V.heap.size ≤ U.heap.size)
            clear kX ownU G2 zU
            have hx0 := KeptW.mk'_w (Below.refl U.heap.size U)
            generalize KeptW.mk' (Below.refl U.heap.size U) = x at hx0
            rw [← hx0]
            clear hx0
            cases z
            · refine region_kept (by kernel_rfl) (by kernel_rfl) ?_
              repeat (go_big_quiet_step (first | (go_at_call 66; with_reducible exact (kept_call (hq1.out _)))))
              refine wpQuiet_nil ?_
              rintro _ ⟨x, rfl⟩
              obtain ⟨Z, hZ, GZ⟩ : ∃ Z, Z = x.w ∧ Below V.heap.size V Z := ⟨_, rfl, HG.out.1.trans (x.below.mono HG.out.2)⟩
              rw [← hZ]
              clear hZ x
              by_cases hcq : cap = p + 1
              · subst hcq
                have hpos : Hid (posDown PP xs xs.length = (p + 1)) := hide (by rw [Hpd.out, Hst.out]; simp)
                have ownZ := Own.below H1.out.1 GZ
                have zZ := GZ.size
                have hVw : w.heap.size + 1 ≤ V.heap.size := by omega
                go_wp2_with (first | (at_builtin; refine wpList_append_row rfl (.tmp 38) (.tmp 41) 31 rfl (Z.heap.size) 2 i0 (.int .i64 0) 1 8 Try.underlying31 hi hz0 hz1 hz2 rfl (by decide) (.slice (some ⟨Z.heap.size, 0, none⟩) 0 0) (0) ([]) rfl (World.ownsRow_lit (base := Z.heap.size) Z #[] 0 (Nat.le_refl _) (by simp [maxLen]) (by simp)) _ _ _ (icells (xs.drop (p + 1))) rfl (by simp [icells] <;> omega) (Row.tailI (k := (p + 1)) (Row.of_own (ownZ.alloc _)) (by intro h; first | omega | rfl | (simp; done))) (icells_oneL _) (by unfold maxLen; omega) (by omega) (by first | omega | (simp; done) | (simp; omega)) ?_; intro v1 Z1 hown1 hgr1 hiff1; obtain ⟨g1, cap1, hv1, hg1, hg1l⟩ := Own.shape hown1 (fun e => absurd (hiff1.1 e).1 (by simp)); subst hv1; have ownZ1 := rowGrown (r := Z.heap.size) (ownZ.alloc (.cells #[] 2)) hgr1 (by omega); have zz1 := hgr1.size; simp at zz1) | (at_builtin; refine wpList_append_row rfl (.tmp 45) (.tmp 47) 31 rfl (w.heap.size + 1) 2 i0 (.int .i64 0) 1 8 Try.underlying31 hi hz0 hz1 hz2 rfl (by decide) (.slice (some ⟨g, 0, none⟩) ((p + 1)) (p + 1)) ((p + 1)) (icells (xs.take (p + 1))) rfl ((Own.cutI ownZ1 (by omega)).alloc _) _ _ _ (icells [(k : Int)]) rfl (by simp [icells] <;> omega) (rowOne _ _ _) (icells_oneL _) (by unfold maxLen; omega) (by omega) (by first | omega | (simp; done) | (simp; omega)) ?_; intro v2 Z2 hown2 hgr2 hiff2; obtain ⟨g2, cap2, hv2, hg2, hg2l⟩ := Own.shape hown2 (fun e => absurd (hiff2.1 e).1 (by simp)); subst hv2; have ownR2 := rowGrown (r := g) (hown1.alloc (.cells #[.int .i64 k] 2)) hgr2 (by omega); have zz2 := hgr2.size; simp at zz2) | (at_builtin; refine wpList_append_row rfl (.tmp 48) (.tmp 49) 31 rfl (w.heap.size + 1) 2 i0 (.int .i64 0) 1 8 Try.underlying31 hi hz0 hz1 hz2 rfl (by decide) (.slice (some ⟨g2, 0, none⟩) ((p + 1) + 1) cap2) ((p + 1) + 1) (icells (xs.take (p + 1)) ++ icells [(k : Int)]) rfl (hown2) _ _ _ (icells (xs.drop (p + 1))) rfl (by simp [icells] <;> omega) (Row.of_own ownR2) (icells_oneL _) (by unfold maxLen; omega) (by omega) (by first | omega | (simp; done) | (simp; omega)) ?_; intro v3 Z3 hown3 hgr3 hiff3; obtain ⟨g3, cap3, hv3, hg3, hg3l⟩ := Own.shape hown3 (fun e => absurd (hiff3.1 e).1 (by simp)); subst hv3))
                go_roundw
                case rel =>
                  obtain ⟨ho, hn⟩ := own_ins hown3 (ys := L (k + 1)) (by rw [hLk.out, hpos.out]; simp [insAt, icells])
                  have kX0 := H1.out.2.1.below GZ H1.out.2.1.lt
                  have kX1 := (kX0.alloc (.cells #[] 2)).grown (row := some Z.heap.size) hgr1 (by intro e; injection e; omega)
                  have kX2 := (kX1.alloc (.cells #[.int .i64 k] 2)).grown (row := some g) hgr2 (by intro e; injection e; omega)
                  have kX3 := kX2.grown (row := some g2) hgr3 (by intro e; injection e; omega)
                  have G0 := H1.out.2.2.trans (GZ.mono (by omega))
                  have G1 := Below.grown (row := some Z.heap.size) (G0.alloc (by omega) (.cells #[] 2)) hgr1 (by simp; omega) (by intro r e; injection e; omega)
                  have G2 := Below.grown (row := some g) (G1.alloc (by omega) (.cells #[.int .i64 k] 2)) hgr2 (by simp; omega) (by intro r e; injection e; omega)
                  have G3 := Below.grown (row := some g2) G2 hgr3 (by omega) (by intro r e; injection e; omega)
                  exact ⟨k + 1, g3, cap3, by omega, by go_num, by congr 1; try omega, ho, kX3, G3⟩
                case measure => simp [intOf]; omega
              · have hpos : Hid (posDown PP xs xs.length = (p + 1)) := hide (by rw [Hpd.out, Hst.out]; simp)
                have ownZ := Own.below H1.out.1 GZ
                have zZ := GZ.size
                have hVw : w.heap.size + 1 ≤ V.heap.size := by omega
                go_wp2_with (first | (at_builtin; refine wpList_append_row rfl (.tmp 38) (.tmp 41) 31 rfl (Z.heap.size) 2 i0 (.int .i64 0) 1 8 Try.underlying31 hi hz0 hz1 hz2 rfl (by decide) (.slice (some ⟨Z.heap.size, 0, none⟩) 0 0) (0) ([]) rfl (World.ownsRow_lit (base := Z.heap.size) Z #[] 0 (Nat.le_refl _) (by simp [maxLen]) (by simp)) _ _ _ (icells (xs.drop (p + 1))) rfl (by simp [icells] <;> omega) (Row.tailI (k := (p + 1)) (Row.of_own (ownZ.alloc _)) (by intro h; first | rfl | omega | (simp; done))) (icells_oneL _) (by unfold maxLen; omega) (by omega) (by first | omega | (simp; done) | (simp; omega)) ?_; intro v1 Z1 hown1 hgr1 hiff1; obtain ⟨g1, cap1, hv1, hg1, hg1l⟩ := Own.shape hown1 (fun e => absurd (hiff1.1 e).1 (by simp)); subst hv1; have ownZ1 := rowGrown (r := Z.heap.size) (ownZ.alloc (.cells #[] 2)) hgr1 (by omega); have zz1 := hgr1.size; simp at zz1) | (at_builtin; refine wpList_append_row rfl (.tmp 45) (.tmp 47) 31 rfl (w.heap.size + 1) 2 i0 (.int .i64 0) 1 8 Try.underlying31 hi hz0 hz1 hz2 rfl (by decide) (.slice (some ⟨g, 0, none⟩) ((p + 1)) cap) ((p + 1)) (icells (xs.take (p + 1))) rfl ((Own.cutI ownZ1 (by omega)).alloc _) _ _ _ (icells [(k : Int)]) rfl (by simp [icells] <;> omega) (rowOne _ _ _) (icells_oneL _) (by unfold maxLen; omega) (by omega) (by first | omega | (simp; done) | (simp; omega)) ?_; intro v2 Z2 hown2 hgr2 hiff2; obtain ⟨g2, cap2, hv2, hg2, hg2l⟩ := Own.shape hown2 (fun e => absurd (hiff2.1 e).1 (by simp)); subst hv2; have ownR2 := rowGrown (r := g) (hown1.alloc (.cells #[.int .i64 k] 2)) hgr2 (by omega); have zz2 := hgr2.size; simp at zz2) | (at_builtin; refine wpList_append_row rfl (.tmp 48) (.tmp 49) 31 rfl (w.heap.size + 1) 2 i0 (.int .i64 0) 1 8 Try.underlying31 hi hz0 hz1 hz2 rfl (by decide) (.slice (some ⟨g2, 0, none⟩) ((p + 1) + 1) cap2) ((p + 1) + 1) (icells (xs.take (p + 1)) ++ icells [(k : Int)]) rfl (hown2) _ _ _ (icells (xs.drop (p + 1))) rfl (by simp [icells] <;> omega) (Row.of_own ownR2) (icells_oneL _) (by unfold maxLen; omega) (by omega) (by first | omega | (simp; done) | (simp; omega)) ?_; intro v3 Z3 hown3 hgr3 hiff3; obtain ⟨g3, cap3, hv3, hg3, hg3l⟩ := Own.shape hown3 (fun e => absurd (hiff3.1 e).1 (by simp)); subst hv3))
                go_roundw
                case rel =>
                  obtain ⟨ho, hn⟩ := own_ins hown3 (ys := L (k + 1)) (by rw [hLk.out, hpos.out]; simp [insAt, icells])
                  have kX0 := H1.out.2.1.below GZ H1.out.2.1.lt
                  have kX1 := (kX0.alloc (.cells #[] 2)).grown (row := some Z.heap.size) hgr1 (by intro e; injection e; omega)
                  have kX2 := (kX1.alloc (.cells #[.int .i64 k] 2)).grown (row := some g) hgr2 (by intro e; injection e; omega)
                  have kX3 := kX2.grown (row := some g2) hgr3 (by intro e; injection e; omega)
                  have G0 := H1.out.2.2.trans (GZ.mono (by omega))
                  have G1 := Below.grown (row := some Z.heap.size) (G0.alloc (by omega) (.cells #[] 2)) hgr1 (by simp; omega) (by intro r e; injection e; omega)
                  have G2 := Below.grown (row := some g) (G1.alloc (by omega) (.cells #[.int .i64 k] 2)) hgr2 (by simp; omega) (by intro r e; injection e; omega)
                  have G3 := Below.grown (row := some g2) G2 hgr3 (by omega) (by intro r e; injection e; omega)
                  exact ⟨k + 1, g3, cap3, by omega, by go_num, by congr 1; try omega, ho, kX3, G3⟩
                case measure => simp [intOf]; omega
            · refine region_kept (by kernel_rfl) (by kernel_rfl) ?_
              repeat (go_big_quiet_step (first | (go_at_call 66; with_reducible exact (kept_call (hq1.out _)))))
              refine wpQuiet_nil ?_
              rintro _ ⟨x, rfl⟩
              go_wp2
              go_roundw
              case rel => exact ⟨p, by omega, by go_num, by rw [Hpd.out, Hst.out]; simp, HG.out.1.trans (x.below.mono HG.out.2)⟩
              case measure => simp [intOf]
      · have tX : w.heap.size < V.heap.size := kX.lt
        have qX0 : V.cell? ⟨w.heap.size, 0, none⟩ = some (.slice (some ⟨b', off, none⟩) ts.length c0) := kX.cell 0
        have qX1 : V.cell? ⟨w.heap.size, 1, none⟩ = some (.slice A1 n1 c1) := kX.cell 1
        have qX2 : V.cell? ⟨w.heap.size, 2, none⟩ = some (.slice A2 n2 c2) := kX.cell 2
        have qX3 : V.cell? ⟨w.heap.size, 3, none⟩ = some (.int .i64 tn) := kX.cell 3
        have qX4 : V.cell? ⟨w.heap.size, 4, none⟩ = some (.bool st) := kX.cell 4
        have H1 := hide (⟨hown, kX, G⟩ : _ ∧ _ ∧ _)
        clear hown kX G y1 y2 y3 y4 y5 y6
        have hLk : Hid (L (k + 1) = L k) := hide (by rw [HL.out]; simp only [lineM, readyQ, getD_of Ht.out]; simp [hs])
        go_wp2
        go_roundw
        case rel => exact ⟨k + 1, g, cap, by omega, by go_num, by rw [hLk.out], by rw [hLk.out]; exact H1.out.1, H1.out.2.1, H1.out.2.2⟩
        case measure => simp [intOf]; omega
    · obtain rfl : k = ts.length := by omega
      have qX0 : V.cell? ⟨w.heap.size, 0, none⟩ = some (.slice A0 ts.length c0) := kX.cell 0
      have H1 := hide (⟨hown, G⟩ : _ ∧ _)
      clear hown kX G
      go_wp2
      go_ret
      exact ⟨_, _, rfl, Own.lower H1.out.1 (by omega), H1.out.2⟩

def firstM (ts : List T7) : Int := (readyM ts).headD (-1)

set_option maxHeartbeats 4000000 in
theorem firstReady_any (ts : List T7) (A0 A1 A2 : Option Addr) (c0 n1 c1 n2 c2 : Nat) (tn : Int) (st : Bool) (w : World) (hlen : ts.length ≤ 1048576) (h : Row w A0 (tcells ts)) :
    Calls Try.prog 97 #[.agg #[.slice A0 ts.length c0, .slice A1 n1 c1, .slice A2 n2 c2, .int .i64 tn, .bool st]] w fun r w' => r = .returned (.int .i64 (firstM ts)) ∧ Below w.heap.size w w' := by
  have H := hide h
  clear h
  unfold firstM
  go_enter Try.func97, Try.ntmps97
  go_wp2_with fail
  have G := Below.refl w.heap.size w
  have kX := Blk.new w 34 #[.slice A0 ts.length c0, .slice A1 n1 c1, .slice A2 n2 c2, .int .i64 tn, .bool st]
  have hbs := G.size
  replace G := G.alloc (by omega) (.cells #[.slice A0 ts.length c0, .slice A1 n1 c1, .slice A2 n2 c2, .int .i64 tn, .bool st] 34)
  have z1 : (w.alloc (.cells #[.slice A0 ts.length c0, .slice A1 n1 c1, .slice A2 n2 c2, .int .i64 tn, .bool st] 34)).heap.size = w.heap.size + 1 := by simp
  clear hbs
  generalize w.alloc (.cells #[.slice A0 ts.length c0, .slice A1 n1 c1, .slice A2 n2 c2, .int .i64 tn, .bool st] 34) = W1 at kX G z1 ⊢
  go_call (readyLine_any ts A0 A1 A2 c0 n1 c1 n2 c2 tn st _ hlen (H.out.below G)) as r W2 ⟨A, c, rfl, own, g1⟩
  have hbs := G.size
  replace kX := kX.below g1 kX.lt
  replace G := G.trans (g1.mono (by omega))
  have z2 := g1.size
  clear g1 hbs
  cases hR : readyM ts with
  | nil =>
    have HR := hide hR
    clear hR
    go_wp2
    go_ret
    refine ⟨?_, G⟩
    rw [HR.out]; rfl
  | cons x r =>
    rw [hR] at own
    obtain ⟨b, off, v, rfl, _, hx, hb, z0⟩ := (Row.of_own own).ks_at (k := 0) (by simp)
    simp only [List.getElem?_cons_zero, Option.some.injEq] at hx
    subst hx
    rw [Nat.add_zero] at z0
    have hl : (0 : Int) < ((x :: r).length : Nat) := by simp
    have hn : ((x :: r).length : Int) ≠ 0 := by omega
    have HR := hide hR
    clear own hR
    go_wp2
    go_ret
    refine ⟨?_, G⟩
    rw [HR.out]; rfl

set_option maxRecDepth 100000 in
set_option maxHeartbeats 16000000 in
theorem waitersOn_any (ts : List T7) (A0 A1 A2 : Option Addr) (c0 n1 c1 n2 c2 : Nat) (tn : Int) (st : Bool) (wa oa : Int) (w : World) (hlen : ts.length ≤ 1048576) (h : Row w A0 (tcells ts)) :
    Calls Try.prog 29 #[.agg #[.slice A0 ts.length c0, .slice A1 n1 c1, .slice A2 n2 c2, .int .i64 tn, .bool st], .int .i64 wa, .int .i64 oa] w fun r w' => ∃ (A : Option Addr) (c : Nat), r = .returned (.slice A (waitersM ts wa oa).length c) ∧ w'.ownsRow w.heap.size 2 1 (.slice A (waitersM ts wa oa).length c) (waitersM ts wa oa).length (icells (waitersM ts wa oa)) ∧ Below w.heap.size w w' := by
  have H := hide h
  clear h
  obtain ⟨i0, hi, hz0, hz1, hz2⟩ := info_parts infoInt
  unfold waitersM
  obtain ⟨L, hL⟩ : ∃ L : Nat → List Int, L = lineM (waitQ ts wa oa) (waitP ts) := ⟨_, rfl⟩
  rw [← hL]
  have HL := hide hL
  clear hL
  go_enter Try.func29, Try.ntmps29
  go_wp2
  have G := Below.refl w.heap.size w
  have kX := Blk.new w 34 #[.slice A0 ts.length c0, .slice A1 n1 c1, .slice A2 n2 c2, .int .i64 tn, .bool st]
  have hbs := G.size
  replace G := G.alloc (by omega) (.cells #[.slice A0 ts.length c0, .slice A1 n1 c1, .slice A2 n2 c2, .int .i64 tn, .bool st] 34)
  have z1 : (w.alloc (.cells #[.slice A0 ts.length c0, .slice A1 n1 c1, .slice A2 n2 c2, .int .i64 tn, .bool st] 34)).heap.size = w.heap.size + 1 := by simp
  clear hbs
  generalize w.alloc (.cells #[.slice A0 ts.length c0, .slice A1 n1 c1, .slice A2 n2 c2, .int .i64 tn, .bool st] 34) = W1 at kX G z1 ⊢
  have own0 := World.ownsRow_lit (base := w.heap.size + 1) (e := 2) (size := 1) W1 #[] 0 (by omega) (by simp [maxLen]) (by simp)
  replace kX := kX.alloc (.cells #[] 2)
  have hbs := G.size
  replace G := G.alloc (by omega) (.cells #[] 2)
  have z2 : (W1.alloc (.cells #[] 2)).heap.size = W1.heap.size + 1 := by simp
  generalize W1.alloc (.cells #[] 2) = W2 at kX G z2 own0 ⊢
  have hB := hide (⟨kX, G, G.size⟩ : _ ∧ _ ∧ w.heap.size ≤ W2.heap.size)
  have hw1 : w.heap.size + 1 ≤ W2.heap.size := by omega
  clear hbs kX
  go_loopw [7, 8] (fun v i wr => ∃ (k g cap : Nat), k ≤ ts.length ∧ i = .int .i64 k ∧ v = .slice (some ⟨g, 0, none⟩) (L k).length cap ∧ wr.ownsRow (w.heap.size + 1) 2 1 (.slice (some ⟨g, 0, none⟩) (L k).length cap) (L k).length (icells (L k)) ∧ Blk wr w.heap.size 34 #[.slice A0 ts.length c0, .slice A1 n1 c1, .slice A2 n2 c2, .int .i64 tn, .bool st] ∧ Below w.heap.size w wr) (fun _ i _ => ts.length - (intOf i).toNat)
  case atStart => exact ⟨0, W1.heap.size, 0, Nat.zero_le _, rfl, by rw [HL.out]; simp [lineM], by rw [HL.out]; simpa [lineM, icells] using own0, hB.out.1, G⟩
  case round =>
    clear G own0
    rename World => V
    obtain ⟨k, g, cap, hk, rfl, rfl, hown, kX, G⟩ := hrel
    have z0 := G.size
    by_cases hlt : k < ts.length
    · obtain ⟨b', off, s, l, o, wt, on, v, t, rfl, _, ht, hb', y0, y1, y2, y3, y4, y5, y6⟩ := (H.out.below G).ts_at hlt
      have Ht := hide ht
      clear ht
      have tX : w.heap.size < V.heap.size := kX.lt
      have qX0 : V.cell? ⟨w.heap.size, 0, none⟩ = some (.slice (some ⟨b', off, none⟩) ts.length c0) := kX.cell 0
      have qX1 : V.cell? ⟨w.heap.size, 1, none⟩ = some (.slice A1 n1 c1) := kX.cell 1
      have qX2 : V.cell? ⟨w.heap.size, 2, none⟩ = some (.slice A2 n2 c2) := kX.cell 2
      have qX3 : V.cell? ⟨w.heap.size, 3, none⟩ = some (.int .i64 tn) := kX.cell 3
      have qX4 : V.cell? ⟨w.heap.size, 4, none⟩ = some (.bool st) := kX.cell 4
      by_cases h1 : s = 3
      rotate_left
      · have h1b : (s != 3) = true := by simpa using h1
        have hh := hide h1
        have H1 := hide (⟨hown.alloc (.cells #[.int .i64 s, .int .i64 l, .int .i64 o, .int .i64 wt, .int .i64 on, .int .i64 v, .int .i64 t] 46), kX.alloc (.cells #[.int .i64 s, .int .i64 l, .int .i64 o, .int .i64 wt, .int .i64 on, .int .i64 v, .int .i64 t] 46), G.alloc G.size (.cells #[.int .i64 s, .int .i64 l, .int .i64 o, .int .i64 wt, .int .i64 on, .int .i64 v, .int .i64 t] 46)⟩ : _ ∧ _ ∧ _)
        clear hown kX G
        have hLk : Hid (L (k + 1) = L k) := hide (by rw [HL.out]; simp only [lineM, waitQ, getD_of Ht.out]; simp [hh.out])
        go_wp2
        go_roundw
        case rel => exact ⟨k + 1, g, cap, by omega, by go_num, by rw [hLk.out], by rw [hLk.out]; exact H1.out.1, H1.out.2.1, H1.out.2.2⟩
        case measure => simp [intOf]; omega
      by_cases h2 : wt = wa
      rotate_left
      · have h1b : (s != 3) = false := by simp [h1]
        have h2b : (wt != wa) = true := by simpa using h2
        have hh := hide h2
        clear h1
        have H1 := hide (⟨hown.alloc (.cells #[.int .i64 s, .int .i64 l, .int .i64 o, .int .i64 wt, .int .i64 on, .int .i64 v, .int .i64 t] 46), kX.alloc (.cells #[.int .i64 s, .int .i64 l, .int .i64 o, .int .i64 wt, .int .i64 on, .int .i64 v, .int .i64 t] 46), G.alloc G.size (.cells #[.int .i64 s, .int .i64 l, .int .i64 o, .int .i64 wt, .int .i64 on, .int .i64 v, .int .i64 t] 46)⟩ : _ ∧ _ ∧ _)
        clear hown kX G
        have hLk : Hid (L (k + 1) = L k) := hide (by rw [HL.out]; simp only [lineM, waitQ, getD_of Ht.out]; simp [hh.out])
        go_wp2
        go_roundw
        case rel => exact ⟨k + 1, g, cap, by omega, by go_num, by rw [hLk.out], by rw [hLk.out]; exact H1.out.1, H1.out.2.1, H1.out.2.2⟩
        case measure => simp [intOf]; omega
      by_cases h3 : on = oa
      rotate_left
      · have h1b : (s != 3) = false := by simp [h1]
        have h2b : (wt != wa) = false := by simp [h2]
        have h3b : (on != oa) = true := by simpa using h3
        have hh := hide h3
        clear h1 h2
        have H1 := hide (⟨hown.alloc (.cells #[.int .i64 s, .int .i64 l, .int .i64 o, .int .i64 wt, .int .i64 on, .int .i64 v, .int .i64 t] 46), kX.alloc (.cells #[.int .i64 s, .int .i64 l, .int .i64 o, .int .i64 wt, .int .i64 on, .int .i64 v, .int .i64 t] 46), G.alloc G.size (.cells #[.int .i64 s, .int .i64 l, .int .i64 o, .int .i64 wt, .int .i64 on, .int .i64 v, .int .i64 t] 46)⟩ : _ ∧ _ ∧ _)
        clear hown kX G
        have hLk : Hid (L (k + 1) = L k) := hide (by rw [HL.out]; simp only [lineM, waitQ, getD_of Ht.out]; simp [hh.out])
        go_wp2
        go_roundw
        case rel => exact ⟨k + 1, g, cap, by omega, by go_num, by rw [hLk.out], by rw [hLk.out]; exact H1.out.1, H1.out.2.1, H1.out.2.2⟩
        case measure => simp [intOf]; omega
      have h1b : (s != 3) = false := by simp [h1]
      have h2b : (wt != wa) = false := by simp [h2]
      have h3b : (on != oa) = false := by simp [h3]
      have hlen1 : (L k).length ≤ k := by rw [HL.out]; exact lineM_length _ _ _
      have hmem : Hid (∀ x ∈ L k, ∃ j : Nat, x = j ∧ j < k) := hide (by rw [HL.out]; exact lineM_mem _ _ _)
      obtain ⟨PP, hPP⟩ : ∃ PP : Int → Bool, PP = waitP ts k := ⟨_, rfl⟩
      have hLk : Hid (L (k + 1) = insAt (L k) (posDown PP (L k) (L k).length) k) := hide (by rw [hPP, HL.out]; simp only [lineM, waitQ, getD_of Ht.out]; simp [h1, h2, h3])
      have HPP := hide hPP
      clear hPP h1 h2 h3
      obtain ⟨xs, hxs⟩ : ∃ xs, xs = L k := ⟨_, rfl⟩
      rw [← hxs] at hown hlen1 hmem hLk ⊢
      clear hxs
      have hgV : g < V.heap.size := (hown.lt g rfl).2
      have hgB : w.heap.size + 1 ≤ g := (hown.lt g rfl).1
      have hXV : w.heap.size < V.heap.size := kX.lt
      have hrow0 := (H.out.below G).below (Below.alloc (Below.refl V.heap.size V) (Nat.le_refl _) (.cells #[.int .i64 s, .int .i64 l, .int .i64 o, .int .i64 wt, .int .i64 on, .int .i64 v, .int .i64 t] 46))
      have G0 := G.alloc G.size (.cells #[.int .i64 s, .int .i64 l, .int .i64 o, .int .i64 wt, .int .i64 on, .int .i64 v, .int .i64 t] 46)
      replace hown := hown.alloc (.cells #[.int .i64 s, .int .i64 l, .int .i64 o, .int .i64 wt, .int .i64 on, .int .i64 v, .int .i64 t] 46)
      replace kX := kX.alloc (.cells #[.int .i64 s, .int .i64 l, .int .i64 o, .int .i64 wt, .int .i64 on, .int .i64 v, .int .i64 t] 46)
      have kT := Blk.new V 46 #[.int .i64 s, .int .i64 l, .int .i64 o, .int .i64 wt, .int .i64 on, .int .i64 v, .int .i64 t]
      have zV : (V.alloc (.cells #[.int .i64 s, .int .i64 l, .int .i64 o, .int .i64 wt, .int .i64 on, .int .i64 v, .int .i64 t] 46)).heap.size = V.heap.size + 1 := by simp
      clear G
      go_wp2_with fail
      generalize V.alloc (.cells #[.int .i64 s, .int .i64 l, .int .i64 o, .int .i64 wt, .int .i64 on, .int .i64 v, .int .i64 t] 46) = V1 at hown kX kT zV hrow0 G0 ⊢
      have H1 := hide (⟨hown, kX, G0⟩ : _ ∧ _ ∧ _)
      have H2 := hide (⟨kT, hrow0⟩ : _ ∧ _)
      clear hown kX kT hrow0 G0 y0 y1 y2 y3 y4 y5 y6
      go_loopw [10] (fun j wr => ∃ (q : Nat), q ≤ xs.length ∧ j = .int .i64 q ∧ posDown PP xs xs.length = posDown PP xs q ∧ Below V1.heap.size V1 wr) (fun j _ => (intOf j).toNat)
      case atStart => exact ⟨xs.length, Nat.le_refl _, rfl, rfl, Below.refl _ _⟩
      case round =>
        rename World => U
        obtain ⟨q, hq, rfl, hpd, G2⟩ := hrel
        have Hpd := hide hpd
        clear hpd
        have hV1w : w.heap.size < V1.heap.size := by omega
        have hV1T : V.heap.size < V1.heap.size := by omega
        have kX := H1.out.2.1.below G2 hV1w
        have kT := H2.out.1.below G2 hV1T
        have ownU := Own.below H1.out.1 G2
        have zU := G2.size
        rcases Nat.eq_zero_or_pos q with hq0 | hq0
        · subst hq0
          go_wp2_with fail
          have HG := hide (⟨G2, G2.size⟩ : Below V1.heap.size V1 U ∧ V1.heap.size ≤ U.heap.size)
          clear kX kT ownU G2 zU
          have hx0 := KeptW.mk'_w (Below.refl U.heap.size U)
          generalize KeptW.mk' (Below.refl U.heap.size U) = x at hx0
          rw [← hx0]
          clear hx0
          refine region_kept (by kernel_rfl) (by kernel_rfl) ?_
          repeat (go_big_quiet_step (fail))
          refine wpQuiet_nil ?_
          rintro _ ⟨x, rfl⟩
          obtain ⟨Z, hZ, GZ⟩ : ∃ Z, Z = x.w ∧ Below V1.heap.size V1 Z := ⟨_, rfl, HG.out.1.trans (x.below.mono HG.out.2)⟩
          rw [← hZ]
          clear hZ x
          have hpos : Hid (posDown PP xs xs.length = 0) := hide (by rw [Hpd.out]; rfl)
          have ownZ := Own.below H1.out.1 GZ
          have zZ := GZ.size
          have hVw : w.heap.size + 1 ≤ V1.heap.size := by omega
          go_wp2_with (first | (at_builtin; refine wpList_append_row rfl (.tmp 61) (.tmp 64) 31 rfl (Z.heap.size) 2 i0 (.int .i64 0) 1 8 Try.underlying31 hi hz0 hz1 hz2 rfl (by decide) (.slice (some ⟨Z.heap.size, 0, none⟩) 0 0) (0) ([]) rfl (World.ownsRow_lit (base := Z.heap.size) Z #[] 0 (Nat.le_refl _) (by simp [maxLen]) (by simp)) _ _ _ (icells (xs.drop 0)) rfl (by simp [icells] <;> omega) (Row.tailI (k := 0) (Row.of_own (ownZ.alloc _)) (by intro h; first | rfl | (simp; done))) (icells_oneL _) (by unfold maxLen; omega) (by omega) (by first | omega | (simp; done) | (simp; omega)) ?_; intro v1 Z1 hown1 hgr1 hiff1; obtain ⟨g1, cap1, hv1, hg1, hg1l⟩ := Own.shape hown1 (fun e => absurd (hiff1.1 e).1 (by simp)); subst hv1; have ownZ1 := rowGrown (r := Z.heap.size) (ownZ.alloc (.cells #[] 2)) hgr1 (by omega); have zz1 := hgr1.size; simp at zz1) | (at_builtin; refine wpList_append_row rfl (.tmp 68) (.tmp 70) 31 rfl (w.heap.size + 1) 2 i0 (.int .i64 0) 1 8 Try.underlying31 hi hz0 hz1 hz2 rfl (by decide) (.slice (some ⟨g, 0, none⟩) (0) cap) (0) (icells (xs.take 0)) rfl ((Own.cutI ownZ1 (by omega)).alloc _) _ _ _ (icells [(k : Int)]) rfl (by simp [icells] <;> omega) (rowOne _ _ _) (icells_oneL _) (by unfold maxLen; omega) (by omega) (by first | omega | (simp; done) | (simp; omega)) ?_; intro v2 Z2 hown2 hgr2 hiff2; obtain ⟨g2, cap2, hv2, hg2, hg2l⟩ := Own.shape hown2 (fun e => absurd (hiff2.1 e).1 (by simp)); subst hv2; have ownR2 := rowGrown (r := g) (hown1.alloc (.cells #[.int .i64 k] 2)) hgr2 (by omega); have zz2 := hgr2.size; simp at zz2) | (at_builtin; refine wpList_append_row rfl (.tmp 71) (.tmp 72) 31 rfl (w.heap.size + 1) 2 i0 (.int .i64 0) 1 8 Try.underlying31 hi hz0 hz1 hz2 rfl (by decide) (.slice (some ⟨g2, 0, none⟩) (0 + 1) cap2) (0 + 1) (icells (xs.take 0) ++ icells [(k : Int)]) rfl (hown2) _ _ _ (icells (xs.drop 0)) rfl (by simp [icells] <;> omega) (Row.of_own ownR2) (icells_oneL _) (by unfold maxLen; omega) (by omega) (by first | omega | (simp; done) | (simp; omega)) ?_; intro v3 Z3 hown3 hgr3 hiff3; obtain ⟨g3, cap3, hv3, hg3, hg3l⟩ := Own.shape hown3 (fun e => absurd (hiff3.1 e).1 (by simp)); subst hv3))
          go_roundw
          case rel =>
            obtain ⟨ho, hn⟩ := own_ins hown3 (ys := L (k + 1)) (by rw [hLk.out, hpos.out]; simp [insAt, icells])
            have kX0 := H1.out.2.1.below GZ H1.out.2.1.lt
            have kX1 := (kX0.alloc (.cells #[] 2)).grown (row := some Z.heap.size) hgr1 (by intro e; injection e; omega)
            have kX2 := (kX1.alloc (.cells #[.int .i64 k] 2)).grown (row := some g) hgr2 (by intro e; injection e; omega)
            have kX3 := kX2.grown (row := some g2) hgr3 (by intro e; injection e; omega)
            have G0 := H1.out.2.2.trans (GZ.mono (by omega))
            have G1 := Below.grown (row := some Z.heap.size) (G0.alloc (by omega) (.cells #[] 2)) hgr1 (by simp; omega) (by intro r e; injection e; omega)
            have G2 := Below.grown (row := some g) (G1.alloc (by omega) (.cells #[.int .i64 k] 2)) hgr2 (by simp; omega) (by intro r e; injection e; omega)
            have G3 := Below.grown (row := some g2) G2 hgr3 (by omega) (by intro r e; injection e; omega)
            exact ⟨k + 1, g3, cap3, by omega, by go_num, by congr 1; try omega, ho, kX3, G3⟩
          case measure => simp [intOf]; omega
        · obtain ⟨p, rfl⟩ : ∃ p, q = p + 1 := ⟨q - 1, by omega⟩
          have hp : p < xs.length := by omega
          obtain ⟨xv, hxv, yx⟩ := Own.i1 ownU (k := p) hp
          obtain ⟨j, rfl, hjk⟩ := hmem.out xv (List.mem_of_getElem? hxv)
          have hjl : j < ts.length := by omega
          obtain ⟨b2, off2, s2, l2, o2, wt2, on2, v2, t2, hA, _, hj, hb2, x0, x1, x2, x3, x4, x5, x6⟩ := (H2.out.2.below G2).ts_at hjl
          injection hA with hA
          injection hA with hA1 hA2
          subst hA1 hA2
          have hPx : PP (xs.getD p 0) = decide (t < t2) := by
            rw [HPP.out, List.getD_eq_getElem?_getD, hxv]
            simp only [Option.getD_some]
            have e1 := getD_of Ht.out
            have e2 := taskAt_of hj
            simp only [waitP, e1, e2]
          have hstep : posDown PP xs (p + 1) = if PP (xs.getD p 0) then posDown PP xs p else p + 1 := rfl
          rw [hPx] at hstep
          have cX0 := KeptW.cell (W0 := U) (b := w.heap.size) (o := 0) (u := .slice (some ⟨b', off, none⟩) ts.length c0) (kX.cell 0)
          have cT0 := KeptW.cell (W0 := U) (b := V.heap.size) (o := 0) (u := .int .i64 s) (kT.cell 0)
          have cT1 := KeptW.cell (W0 := U) (b := V.heap.size) (o := 1) (u := .int .i64 l) (kT.cell 1)
          have cT2 := KeptW.cell (W0 := U) (b := V.heap.size) (o := 2) (u := .int .i64 o) (kT.cell 2)
          have cT3 := KeptW.cell (W0 := U) (b := V.heap.size) (o := 3) (u := .int .i64 wt) (kT.cell 3)
          have cT4 := KeptW.cell (W0 := U) (b := V.heap.size) (o := 4) (u := .int .i64 on) (kT.cell 4)
          have cT5 := KeptW.cell (W0 := U) (b := V.heap.size) (o := 5) (u := .int .i64 v) (kT.cell 5)
          have cT6 := KeptW.cell (W0 := U) (b := V.heap.size) (o := 6) (u := .int .i64 t) (kT.cell 6)
          have cy := KeptW.cell (W0 := U) (b := g) (o := p) (u := .int .i64 j) yx
          have cz := KeptW.cell (W0 := U) (b := b') (o := off + j * 7 + 6) (u := .int .i64 t2) x6
          have hcl : xs.length ≤ cap := own_cap H1.out.1
          have hcap : p + 1 ≤ cap := by omega
          clear hPx hj hxv yx x0 x1 x2 x3 x4 x5 x6
          go_wp2_with fail
          by_cases hlt2 : t < t2
          · have hyes : Hid (posDown PP xs (p + 1) = posDown PP xs p) := hide (by rw [hstep]; simp [hlt2])
            have hd : decide (t < t2) = true := by simpa using hlt2
            clear hstep
            have HG := hide (⟨G2, G2.size⟩ : Below V1.heap.size V1 U ∧ V1.heap.size ≤ U.heap.size)
            clear kX kT ownU G2 zU
            have hx0 := KeptW.mk'_w (Below.refl U.heap.size U)
            generalize KeptW.mk' (Below.refl U.heap.size U) = x at hx0
            rw [← hx0]
            clear hx0
            refine region_kept (by kernel_rfl) (by kernel_rfl) ?_
            repeat (go_big_quiet_step (fail))
            refine wpQuiet_nil ?_
            rintro _ ⟨x, rfl⟩
            go_wp2
            go_roundw
            case rel => exact ⟨p, by omega, by go_num, by rw [Hpd.out, hyes.out], HG.out.1.trans (x.below.mono HG.out.2)⟩
            case measure => simp [intOf]
          · have hno : Hid (posDown PP xs (p + 1) = p + 1) := hide (by rw [hstep]; simp [hlt2])
            have hd : decide (t < t2) = false := by simpa using hlt2
            clear hstep
            have HG := hide (⟨G2, G2.size⟩ : Below V1.heap.size V1 U ∧ V1.heap.size ≤ U.heap.size)
            clear kX kT ownU G2 zU
            have hx0 := KeptW.mk'_w (Below.refl U.heap.size U)
            generalize KeptW.mk' (Below.refl U.heap.size U) = x at hx0
            rw [← hx0]
            clear hx0
            refine region_kept (by kernel_rfl) (by kernel_rfl) ?_
            repeat (go_big_quiet_step (fail))
            refine wpQuiet_nil ?_
            rintro _ ⟨x, rfl⟩
            obtain ⟨Z, hZ, GZ⟩ : ∃ Z, Z = x.w ∧ Below V1.heap.size V1 Z := ⟨_, rfl, HG.out.1.trans (x.below.mono HG.out.2)⟩
            rw [← hZ]
            clear hZ x
            by_cases hcq : cap = p + 1
            · subst hcq
              have hpos : Hid (posDown PP xs xs.length = (p + 1)) := hide (by rw [Hpd.out, hno.out])
              have ownZ := Own.below H1.out.1 GZ
              have zZ := GZ.size
              have hVw : w.heap.size + 1 ≤ V1.heap.size := by omega
              go_wp2_with (first | (at_builtin; refine wpList_append_row rfl (.tmp 61) (.tmp 64) 31 rfl (Z.heap.size) 2 i0 (.int .i64 0) 1 8 Try.underlying31 hi hz0 hz1 hz2 rfl (by decide) (.slice (some ⟨Z.heap.size, 0, none⟩) 0 0) (0) ([]) rfl (World.ownsRow_lit (base := Z.heap.size) Z #[] 0 (Nat.le_refl _) (by simp [maxLen]) (by simp)) _ _ _ (icells (xs.drop (p + 1))) rfl (by simp [icells] <;> omega) (Row.tailI (k := (p + 1)) (Row.of_own (ownZ.alloc _)) (by intro h; first | omega | rfl | (simp; done))) (icells_oneL _) (by unfold maxLen; omega) (by omega) (by first | omega | (simp; done) | (simp; omega)) ?_; intro v1 Z1 hown1 hgr1 hiff1; obtain ⟨g1, cap1, hv1, hg1, hg1l⟩ := Own.shape hown1 (fun e => absurd (hiff1.1 e).1 (by simp)); subst hv1; have ownZ1 := rowGrown (r := Z.heap.size) (ownZ.alloc (.cells #[] 2)) hgr1 (by omega); have zz1 := hgr1.size; simp at zz1) | (at_builtin; refine wpList_append_row rfl (.tmp 68) (.tmp 70) 31 rfl (w.heap.size + 1) 2 i0 (.int .i64 0) 1 8 Try.underlying31 hi hz0 hz1 hz2 rfl (by decide) (.slice (some ⟨g, 0, none⟩) ((p + 1)) (p + 1)) ((p + 1)) (icells (xs.take (p + 1))) rfl ((Own.cutI ownZ1 (by omega)).alloc _) _ _ _ (icells [(k : Int)]) rfl (by simp [icells] <;> omega) (rowOne _ _ _) (icells_oneL _) (by unfold maxLen; omega) (by omega) (by first | omega | (simp; done) | (simp; omega)) ?_; intro v2 Z2 hown2 hgr2 hiff2; obtain ⟨g2, cap2, hv2, hg2, hg2l⟩ := Own.shape hown2 (fun e => absurd (hiff2.1 e).1 (by simp)); subst hv2; have ownR2 := rowGrown (r := g) (hown1.alloc (.cells #[.int .i64 k] 2)) hgr2 (by omega); have zz2 := hgr2.size; simp at zz2) | (at_builtin; refine wpList_append_row rfl (.tmp 71) (.tmp 72) 31 rfl (w.heap.size + 1) 2 i0 (.int .i64 0) 1 8 Try.underlying31 hi hz0 hz1 hz2 rfl (by decide) (.slice (some ⟨g2, 0, none⟩) ((p + 1) + 1) cap2) ((p + 1) + 1) (icells (xs.take (p + 1)) ++ icells [(k : Int)]) rfl (hown2) _ _ _ (icells (xs.drop (p + 1))) rfl (by simp [icells] <;> omega) (Row.of_own ownR2) (icells_oneL _) (by unfold maxLen; omega) (by omega) (by first | omega | (simp; done) | (simp; omega)) ?_; intro v3 Z3 hown3 hgr3 hiff3; obtain ⟨g3, cap3, hv3, hg3, hg3l⟩ := Own.shape hown3 (fun e => absurd (hiff3.1 e).1 (by simp)); subst hv3))
              go_roundw
              case rel =>
                obtain ⟨ho, hn⟩ := own_ins hown3 (ys := L (k + 1)) (by rw [hLk.out, hpos.out]; simp [insAt, icells])
                have kX0 := H1.out.2.1.below GZ H1.out.2.1.lt
                have kX1 := (kX0.alloc (.cells #[] 2)).grown (row := some Z.heap.size) hgr1 (by intro e; injection e; omega)
                have kX2 := (kX1.alloc (.cells #[.int .i64 k] 2)).grown (row := some g) hgr2 (by intro e; injection e; omega)
                have kX3 := kX2.grown (row := some g2) hgr3 (by intro e; injection e; omega)
                have G0 := H1.out.2.2.trans (GZ.mono (by omega))
                have G1 := Below.grown (row := some Z.heap.size) (G0.alloc (by omega) (.cells #[] 2)) hgr1 (by simp; omega) (by intro r e; injection e; omega)
                have G2 := Below.grown (row := some g) (G1.alloc (by omega) (.cells #[.int .i64 k] 2)) hgr2 (by simp; omega) (by intro r e; injection e; omega)
                have G3 := Below.grown (row := some g2) G2 hgr3 (by omega) (by intro r e; injection e; omega)
                exact ⟨k + 1, g3, cap3, by omega, by go_num, by congr 1; try omega, ho, kX3, G3⟩
              case measure => simp [intOf]; omega
            · have hpos : Hid (posDown PP xs xs.length = (p + 1)) := hide (by rw [Hpd.out, hno.out])
              have ownZ := Own.below H1.out.1 GZ
              have zZ := GZ.size
              have hVw : w.heap.size + 1 ≤ V1.heap.size := by omega
              go_wp2_with (first | (at_builtin; refine wpList_append_row rfl (.tmp 61) (.tmp 64) 31 rfl (Z.heap.size) 2 i0 (.int .i64 0) 1 8 Try.underlying31 hi hz0 hz1 hz2 rfl (by decide) (.slice (some ⟨Z.heap.size, 0, none⟩) 0 0) (0) ([]) rfl (World.ownsRow_lit (base := Z.heap.size) Z #[] 0 (Nat.le_refl _) (by simp [maxLen]) (by simp)) _ _ _ (icells (xs.drop (p + 1))) rfl (by simp [icells] <;> omega) (Row.tailI (k := (p + 1)) (Row.of_own (ownZ.alloc _)) (by intro h; first | rfl | omega | (simp; done))) (icells_oneL _) (by unfold maxLen; omega) (by omega) (by first | omega | (simp; done) | (simp; omega)) ?_; intro v1 Z1 hown1 hgr1 hiff1; obtain ⟨g1, cap1, hv1, hg1, hg1l⟩ := Own.shape hown1 (fun e => absurd (hiff1.1 e).1 (by simp)); subst hv1; have ownZ1 := rowGrown (r := Z.heap.size) (ownZ.alloc (.cells #[] 2)) hgr1 (by omega); have zz1 := hgr1.size; simp at zz1) | (at_builtin; refine wpList_append_row rfl (.tmp 68) (.tmp 70) 31 rfl (w.heap.size + 1) 2 i0 (.int .i64 0) 1 8 Try.underlying31 hi hz0 hz1 hz2 rfl (by decide) (.slice (some ⟨g, 0, none⟩) ((p + 1)) cap) ((p + 1)) (icells (xs.take (p + 1))) rfl ((Own.cutI ownZ1 (by omega)).alloc _) _ _ _ (icells [(k : Int)]) rfl (by simp [icells] <;> omega) (rowOne _ _ _) (icells_oneL _) (by unfold maxLen; omega) (by omega) (by first | omega | (simp; done) | (simp; omega)) ?_; intro v2 Z2 hown2 hgr2 hiff2; obtain ⟨g2, cap2, hv2, hg2, hg2l⟩ := Own.shape hown2 (fun e => absurd (hiff2.1 e).1 (by simp)); subst hv2; have ownR2 := rowGrown (r := g) (hown1.alloc (.cells #[.int .i64 k] 2)) hgr2 (by omega); have zz2 := hgr2.size; simp at zz2) | (at_builtin; refine wpList_append_row rfl (.tmp 71) (.tmp 72) 31 rfl (w.heap.size + 1) 2 i0 (.int .i64 0) 1 8 Try.underlying31 hi hz0 hz1 hz2 rfl (by decide) (.slice (some ⟨g2, 0, none⟩) ((p + 1) + 1) cap2) ((p + 1) + 1) (icells (xs.take (p + 1)) ++ icells [(k : Int)]) rfl (hown2) _ _ _ (icells (xs.drop (p + 1))) rfl (by simp [icells] <;> omega) (Row.of_own ownR2) (icells_oneL _) (by unfold maxLen; omega) (by omega) (by first | omega | (simp; done) | (simp; omega)) ?_; intro v3 Z3 hown3 hgr3 hiff3; obtain ⟨g3, cap3, hv3, hg3, hg3l⟩ := Own.shape hown3 (fun e => absurd (hiff3.1 e).1 (by simp)); subst hv3))
              go_roundw
              case rel =>
                obtain ⟨ho, hn⟩ := own_ins hown3 (ys := L (k + 1)) (by rw [hLk.out, hpos.out]; simp [insAt, icells])
                have kX0 := H1.out.2.1.below GZ H1.out.2.1.lt
                have kX1 := (kX0.alloc (.cells #[] 2)).grown (row := some Z.heap.size) hgr1 (by intro e; injection e; omega)
                have kX2 := (kX1.alloc (.cells #[.int .i64 k] 2)).grown (row := some g) hgr2 (by intro e; injection e; omega)
                have kX3 := kX2.grown (row := some g2) hgr3 (by intro e; injection e; omega)
                have G0 := H1.out.2.2.trans (GZ.mono (by omega))
                have G1 := Below.grown (row := some Z.heap.size) (G0.alloc (by omega) (.cells #[] 2)) hgr1 (by simp; omega) (by intro r e; injection e; omega)
                have G2 := Below.grown (row := some g) (G1.alloc (by omega) (.cells #[.int .i64 k] 2)) hgr2 (by simp; omega) (by intro r e; injection e; omega)
                have G3 := Below.grown (row := some g2) G2 hgr3 (by omega) (by intro r e; injection e; omega)
                exact ⟨k + 1, g3, cap3, by omega, by go_num, by congr 1; try omega, ho, kX3, G3⟩
              case measure => simp [intOf]; omega
    · obtain rfl : k = ts.length := by omega
      have qX0 : V.cell? ⟨w.heap.size, 0, none⟩ = some (.slice A0 ts.length c0) := kX.cell 0
      have H1 := hide (⟨hown, G⟩ : _ ∧ _)
      clear hown kX G
      go_wp2
      go_ret
      exact ⟨_, _, rfl, Own.lower H1.out.1 (by omega), H1.out.2⟩
end Go.Proofs.Ytgncjcnobojgbaa

namespace Go.Proofs.Ytgncjcnobojgbaa
open Go.RowKit
set_option linter.unusedVariables false

theorem run_copy_whole {P : Program} (w : World) (dT sT ty elem : TypeId) (size n g dCap : Nat) (sp : Option Addr) (sCap : Nat) (cur : Array Value) (t : TypeId) (cs : List Value) (hu : P.underlying dT = some (.slice elem)) (hs : (P.info? elem).map (·.size) = some size)
    (hg : w.heap[g]? = some (.cells cur t (0, 0))) (hn : cs.length = n * size) (hsrc : Row w sp cs) (hfit : cur.size = cs.length) (h1 : ∀ v ∈ cs, v.oneCell' = true) :
    (Builtin.copy_ #[dT, sT] ty #[.slice (some ⟨g, 0, none⟩) n dCap, .slice sp n sCap]).run P w = .ok (goInt n) (w.setRow g cs.toArray) := by
  cases hq : P.info? elem with
  | none => simp [hq] at hs
  | some i =>
    have hi : i.size = size := by simpa [hq] using hs
    have hst := run_storeCells_at P g 0 t cs 0 cur w hg (by omega) h1
    have hrow : (cur.toList.take (0 + 0) ++ cs ++ cur.toList.drop (0 + 0 + cs.length)).toArray = cs.toArray := by
      rw [List.drop_eq_nil_of_le (by rw [Array.length_toList]; omega)]; simp
    rw [hrow] at hst
    rcases Nat.eq_zero_or_pos cs.length with h0 | h0
    · obtain rfl : cs = [] := List.eq_nil_of_length_eq_zero h0
      have hz : n * size = 0 := by simpa using hn.symm
      have hl : ∀ (x : Addr), (loadCells x 0).run P w = .ok #[] w := fun x => by simpa using run_loadCells_list (P := P) w x [] (by simp)
      cases sp with
      | none => simp [Builtin.copy_, run_underlying hu, Builtin.lenOf, Builtin.firstCells, sizeOf, typeInfo, hq, hst]
      | some a => simp [Builtin.copy_, run_underlying hu, Builtin.lenOf, Builtin.firstCells, sizeOf, typeInfo, hq, hi, hz, hl, hst]
    · obtain ⟨b, off, rfl, hc⟩ := hsrc h0
      have hl := run_loadCells_list (P := P) w ⟨b, off, none⟩ cs (fun j v hv => by
        rw [show (⟨b, off, none⟩ : Addr).add j = ⟨b, off + j, none⟩ from by unfold Addr.add; split <;> simp_all]
        exact hc j v hv)
      rw [hn] at hl
      simp [Builtin.copy_, run_underlying hu, Builtin.lenOf, Builtin.firstCells, sizeOf, typeInfo, hq, hi, hl, hst]

theorem setRow_grown (w : World) (g : Nat) (cs : Array Value) : w.grownBy (w.setRow g cs) (some g) :=
  ⟨rfl, rfl, rfl, by simp [World.setRow], fun k _ hk => setRow_other w g k cs (fun e => hk (by rw [e]))⟩

/-- The same, as one step of a region that draws its order. -/
theorem step_copy_whole {P : Program} {ops : Array Oper} {o : Oper} {a : Act} {w : World} {K : Act → World → Prop} {Q : Exit → Act → World → Prop} {E : Prop} (hgd : o.guard = none) (d s : Operand) (dT sT : TypeId)
    (ho : o.op = .call { callee := .builtin .copy, args := #[d, s], argTypes := #[dT, sT] }) (elem : TypeId) (size n g dCap : Nat) (sp : Option Addr) (sCap : Nat) (hu : P.underlying dT = some (.slice elem)) (hs : (P.info? elem).map (·.size) = some size)
    (hd : a.eval d = .slice (some ⟨g, 0, none⟩) n dCap) (hx : a.eval s = .slice sp n sCap)
    (cur : Array Value) (t : TypeId) (hg : Blk w g t cur) (cs : List Value) (hn : cs.length = n * size) (hsrc : Row w sp cs) (hfit : cur.size = cs.length) (h1 : ∀ v ∈ cs, v.oneCell' = true)
    (h : ∀ w', Blk w' g t cs.toArray → w.grownBy w' (some g) → K (a.put o.dst (goInt n)) w') :
    if Region.wanted o (yielded ops a.tmps) = true then Oper.wp P o a w K Q else E := by
  have hw : Region.wanted o (yielded ops a.tmps) = true := by simp [Region.wanted, hgd]
  rw [if_pos hw]
  have hrun := run_copy_whole (P := P) w dT sT o.type elem size n g dCap sp sCap cur t cs hu hs hg hn hsrc hfit h1
  unfold Oper.wp
  simp [execOp, ho, resolve, invoke, builtin, hd, hx, hrun, Result.andThen]
  exact h _ (setRow_heap w g cur _ t _ hg) (setRow_grown w g _)

theorem tcells_one (ts : List T7) : ∀ v ∈ tcells ts, v.oneCell' = true := by
  intro v hv
  obtain ⟨t, _, ht⟩ := List.mem_flatMap.1 hv
  simp only [T7.cs, List.mem_cons, List.not_mem_nil, or_false] at ht
  rcases ht with rfl | rfl | rfl | rfl | rfl | rfl | rfl <;> rfl
theorem fcells_one (fs : List F2) : ∀ v ∈ fcells fs, v.oneCell' = true := by
  intro v hv
  obtain ⟨t, _, ht⟩ := List.mem_flatMap.1 hv
  simp only [F2.cs, List.mem_cons, List.not_mem_nil, or_false] at ht
  rcases ht with rfl | rfl <;> rfl
theorem icells_one (ks : List Int) : ∀ v ∈ icells ks, v.oneCell' = true := by
  intro v hv
  obtain ⟨t, _, rfl⟩ := List.mem_map.1 hv
  rfl
end Go.Proofs.Ytgncjcnobojgbaa
