import Derived.Test.YtfkdfkoigojciaaGreatDoorQU02
import Derived.Test.YtfkdfkoigojciaaGreatDoorQU01

namespace Go.Proofs.YtfkdfkoigojciaaGreatDoor
open Go.RowKit
set_option linter.unusedVariables false
set_option maxHeartbeats 1000000
theorem sIsOpen_any (s l o wt on v t : Int) (w : World) :
 Calls Tryz.prog 72 #[.agg #[.int .i64 s, .int .i64 l, .int .i64 o, .int .i64 wt, .int .i64 on, .int .i64 v, .int .i64 t]] w fun r w' => r = .returned (.bool (openB s)) ∧ Below w.heap.size w w' := by
 go_enter Tryz.func72, Tryz.ntmps72
 go_wp2_with fail
 go_call (l1In_any _ _ _ _) as r w1 ⟨rfl, rfl⟩
 go_wp2_with fail
 go_ret
 exact ⟨rfl, by go_grown⟩
theorem sNewTask_any (lv tn : Int) (w : World) :
 Calls Tryz.prog 55 #[.int .i64 lv, .int .i64 tn] w fun r w' => r = .returned (.agg #[.int .i64 1, .int .i64 lv, .int .i64 (-1), .int .i64 0, .int .i64 0, .int .i64 0, .int .i64 tn]) ∧ Below w.heap.size w w' := by
 go_enter Tryz.func55, Tryz.ntmps55
 go_wp2
 exact bodyPost_ret (v := .agg #[.int .i64 1, .int .i64 lv, .int .i64 (-1), .int .i64 0, .int .i64 0, .int .i64 0, .int .i64 tn]) (by simp [results, Tryz.results55, go_sem]) rfl ⟨rfl, by go_grown⟩
def OwnPool (w : World) (lo hi : Nat) (ts : List T7) (ks : List Int) (fs : List F2) (A0 A1 A2 : Option Addr) (c0 c1 c2 : Nat) : Prop :=
 OwnR w lo hi 45 7 (.slice A0 ts.length c0) ts.length (tcells ts) ∧ OwnR w lo hi 2 1 (.slice A1 ks.length c1) ks.length (icells ks) ∧ OwnR w lo hi 103 2 (.slice A2 fs.length c2) fs.length (fcells fs)
def InPool (w : World) (ts : List T7) (ks : List Int) (fs : List F2) (A0 A1 A2 : Option Addr) : Prop := Row w A0 (tcells ts) ∧ Row w A1 (icells ks) ∧ Row w A2 (fcells fs)
section
variable {w w' : World} {lo hi : Nat} {ts : List T7} {ks : List Int} {fs : List F2} {A0 A1 A2 : Option Addr} {c0 c1 c2 : Nat}
theorem OwnPool.reads (h : OwnPool w lo hi ts ks fs A0 A1 A2 c0 c1 c2) : InPool w ts ks fs A0 A1 A2 := ⟨h.1.row, h.2.1.row, h.2.2.row⟩
theorem OwnPool.below (h : OwnPool w lo hi ts ks fs A0 A1 A2 c0 c1 c2) (hb : Below w.heap.size w w') : OwnPool w' lo hi ts ks fs A0 A1 A2 c0 c1 c2 := ⟨h.1.below hb, h.2.1.below hb, h.2.2.below hb⟩
theorem OwnPool.alloc (h : OwnPool w lo hi ts ks fs A0 A1 A2 c0 c1 c2) (o : Obj) : OwnPool (w.alloc o) lo hi ts ks fs A0 A1 A2 c0 c1 c2 := ⟨h.1.alloc o, h.2.1.alloc o, h.2.2.alloc o⟩
theorem OwnPool.wide {l2 h2 : Nat} (h : OwnPool w lo hi ts ks fs A0 A1 A2 c0 c1 c2) (hl : l2 ≤ lo) (hh : hi ≤ h2) : OwnPool w l2 h2 ts ks fs A0 A1 A2 c0 c1 c2 := ⟨h.1.wide hl hh, h.2.1.wide hl hh, h.2.2.wide hl hh⟩
theorem OwnPool.store (h : OwnPool w lo hi ts ks fs A0 A1 A2 c0 c1 c2) {p : Addr} (hp : p.block < lo ∨ hi ≤ p.block) (u : Value) : OwnPool (w.setCell p u) lo hi ts ks fs A0 A1 A2 c0 c1 c2 := ⟨h.1.store hp u, h.2.1.store hp u, h.2.2.store hp u⟩
theorem InPool.below (h : InPool w ts ks fs A0 A1 A2) (hb : Below w.heap.size w w') : InPool w' ts ks fs A0 A1 A2 := ⟨Row.below h.1 hb, Row.below h.2.1 hb, Row.below h.2.2 hb⟩
end
def MadePool (w : World) (ts : List T7) (ks : List Int) (fs : List F2) (tn : Int) (st : Bool) (r : Ending) (w' : World) : Prop :=
 ∃ (A0 A1 A2 : Option Addr) (c0 c1 c2 : Nat), r = .returned (.agg #[.slice A0 ts.length c0, .slice A1 ks.length c1, .slice A2 fs.length c2, .int .i64 tn, .bool st]) ∧ OwnPool w' w.heap.size w'.heap.size ts ks fs A0 A1 A2 c0 c1 c2 ∧ Below w.heap.size w w'
theorem own_ne_own {w : World} {b1 b2 : Nat} {e1 e2 : TypeId} {s1 s2 n1 n2 : Nat} {v1 v2 : Value} {x1 x2 : List Value} (h1 : w.ownsRow b1 e1 s1 v1 n1 x1) (h2 : w.ownsRow b2 e2 s2 v2 n2 x2) (hne : e1 ≠ e2) : v1.ownBlock = none ∨ v1.ownBlock ≠ v2.ownBlock := by
 rcases h1.2 with ⟨rfl, _⟩ | ⟨g1, c1, u1, rfl, _, k1, _⟩
 ·exact .inl rfl
 ·rcases h2.2 with ⟨rfl, _⟩ | ⟨g2, c2, u2, rfl, _, k2, _⟩
  ·exact .inr (by simp [Value.ownBlock])
  ·refine .inr fun e => ?_
   have e' : g1 = g2 := by simpa [Value.ownBlock] using e
   subst e'
   exact Blk.ne_ (t := e1) (t' := e2) k1 k2 hne rfl
theorem OwnR.grown {w w' : World} {lo hi : Nat} {e : TypeId} {size n : Nat} {v : Value} {xs : List Value} {row : Option Nat} (h : OwnR w lo hi e size v n xs) (hg : w.grownBy w' row) (hne : v.ownBlock = none ∨ v.ownBlock ≠ row) : OwnR w' lo hi e size v n xs := ⟨h.1.kept hg hne, h.2⟩
def Within (lo hi : Nat) (w w' : World) : Prop := w'.os = w.os ∧ w'.tape = w.tape ∧ w'.output = w.output ∧ w.heap.size ≤ w'.heap.size ∧ ∀ b, b < w.heap.size → (b < lo ∨ hi ≤ b) → w'.heap[b]? = w.heap[b]?
section
variable {lo hi B : Nat} {w w' w2 : World}
theorem Within.refl (lo hi : Nat) (w : World) : Within lo hi w w := ⟨rfl, rfl, rfl, Nat.le_refl _, fun _ _ _ => rfl⟩
theorem Within.size (h : Within lo hi w w') : w.heap.size ≤ w'.heap.size := h.2.2.2.1
theorem Within.alloc (h : Within lo hi w w') (_ : w.heap.size ≤ w'.heap.size) (o : Obj) : Within lo hi w (w'.alloc o) :=
 ⟨h.1, h.2.1, h.2.2.1, Nat.le_trans h.2.2.2.1 (by simp), fun b hb ho => (Below.heap_alloc w' o b (Nat.lt_of_lt_of_le hb h.2.2.2.1)).trans (h.2.2.2.2 b hb ho)⟩
theorem Within.setNew (h : Within lo hi w w') {p : Addr} (hp : w.heap.size ≤ p.block) (v : Value) : Within lo hi w (w'.setCell p v) :=
 ⟨h.1, h.2.1, h.2.2.1, by simpa [World.setCell] using h.2.2.2.1, fun b hb ho => (Below.heap_setCell w' p v b (by intro e; subst e; omega)).trans (h.2.2.2.2 b hb ho)⟩
theorem Within.setIn (h : Within lo hi w w') {p : Addr} (hp : lo ≤ p.block ∧ p.block < hi) (v : Value) : Within lo hi w (w'.setCell p v) :=
 ⟨h.1, h.2.1, h.2.2.1, by simpa [World.setCell] using h.2.2.2.1, fun b hb ho => (Below.heap_setCell w' p v b (by intro e; subst e; omega)).trans (h.2.2.2.2 b hb ho)⟩
theorem Within.drew (h : Within lo hi w w') : Within lo hi w w'.drew := h
theorem Within.wide {l2 h2 : Nat} (h : Within lo hi w w') (hl : l2 ≤ lo) (hh : hi ≤ h2) : Within l2 h2 w w' := ⟨h.1, h.2.1, h.2.2.1, h.2.2.2.1, fun b hb ho => h.2.2.2.2 b hb (by omega)⟩
theorem Within.trans (h : Within lo hi w w') (k : Within lo hi w' w2) : Within lo hi w w2 :=
 ⟨k.1.trans h.1, k.2.1.trans h.2.1, k.2.2.1.trans h.2.2.1, Nat.le_trans h.2.2.2.1 k.2.2.2.1, fun b hb ho => (k.2.2.2.2 b (Nat.lt_of_lt_of_le hb h.2.2.2.1) ho).trans (h.2.2.2.2 b hb ho)⟩
theorem Within.of_below (h : Below w.heap.size w w') : Within lo hi w w' := ⟨h.os, h.tape, h.output, h.size, fun b hb _ => h.block b hb⟩
theorem Within.blk {g : Nat} {t : TypeId} {cs : Array Value} (h : Within lo hi w w') (hk : Blk w g t cs) (hg : g < lo ∨ hi ≤ g) : Blk w' g t cs := (h.2.2.2.2 g hk.lt hg).trans hk
theorem Within.under {a : World} (h : Within lo hi w w') (hb : Below B a w) (hB : B ≤ lo) (hw : B ≤ w.heap.size) : Below B a w' :=
 ⟨h.1.trans hb.os, h.2.1.trans hb.tape, h.2.2.1.trans hb.output, Nat.le_trans hb.size h.2.2.2.1, fun i hi => (h.2.2.2.2 i (by omega) (.inl (by omega))).trans (hb.block i hi)⟩
theorem Within.own {l2 h2 : Nat} {e : TypeId} {size n : Nat} {v : Value} {xs : List Value} (h : Within lo hi w w') (k : OwnR w l2 h2 e size v n xs) (hd : h2 ≤ lo ∨ hi ≤ l2) : OwnR w' l2 h2 e size v n xs := by
 refine ⟨⟨k.1.1, ?_⟩, k.2⟩
 rcases k.1.2 with k2 | ⟨g, cap, cur, hv, hb, hg, hr⟩
 ·exact .inl k2
 ·have hlt : g < w.heap.size := Blk.lt (t := e) (cs := cur) hg
  have hhi := k.2 g (by rw [hv]; rfl)
  exact .inr ⟨g, cap, cur, hv, hb, (h.2.2.2.2 g hlt (by omega)).trans hg, hr⟩
end
theorem Within.pool {lo hi l2 h2 : Nat} {w w' : World} {ts : List T7} {ks : List Int} {fs : List F2} {A0 A1 A2 : Option Addr} {c0 c1 c2 : Nat} (h : Within lo hi w w') (k : OwnPool w l2 h2 ts ks fs A0 A1 A2 c0 c1 c2) (hd : h2 ≤ lo ∨ hi ≤ l2) : OwnPool w' l2 h2 ts ks fs A0 A1 A2 c0 c1 c2 := ⟨h.own k.1 hd, h.own k.2.1 hd, h.own k.2.2 hd⟩
inductive Res where
 | blk (g : Nat) (t : TypeId) (cs : Array Value)
 | row (e : TypeId) (size : Nat) (v : Value) (n : Nat) (xs : List Value)
def Res.fp : Res → Option Nat
 | .blk g _ _ => some g
 | .row _ _ v _ _ => v.ownBlock
def Res.here (W : World) : Res → Prop
 | .blk g t cs => Blk W g t cs
 | .row e size v n xs => W.ownsRow 0 e size v n xs
def fps (rs : List Res) : List Nat := rs.filterMap Res.fp
structure Sep (S : List Nat) (w W : World) (rs : List Res) : Prop where
 os : W.os = w.os
 tape : W.tape = w.tape
 output : W.output = w.output
 size : w.heap.size ≤ W.heap.size
 block : ∀ b, b < w.heap.size → b ∉ S → W.heap[b]? = w.heap[b]?
 here : ∀ r ∈ rs, r.here W
 own : ∀ r ∈ rs, ∀ g, r.fp = some g → g ∈ S ∨ w.heap.size ≤ g
 apart : rs.Pairwise fun x y => ∀ g, x.fp = some g → y.fp ≠ some g
section
variable {S : List Nat} {w W W' : World} {rs ps bs : List Res} {r : Res}
theorem Res.here.lt {g : Nat} (h : r.here W) (hg : r.fp = some g) : g < W.heap.size := by
 cases r with
 | blk g' t cs => injection hg with hg; subst hg; exact Blk.lt h
 | row e size v n xs => exact (World.ownsRow.lt h g hg).2
theorem Res.here.keep (h : r.here W) (hk : ∀ g, r.fp = some g → W'.heap[g]? = W.heap[g]?) : r.here W' := by
 cases r with
 | blk g t cs => exact (hk g rfl).trans h
 | row e size v n xs =>
  refine ⟨h.1, ?_⟩
  rcases h.2 with h2 | ⟨g, cap, cur, hv, hb, hg, hr⟩
  ·exact .inl h2
  ·exact .inr ⟨g, cap, cur, hv, hb, (hk g (by subst hv; rfl)).trans hg, hr⟩
theorem mem_fps {g : Nat} : g ∈ fps rs ↔ ∃ r ∈ rs, r.fp = some g := by simp [fps]
theorem Sep.start (w : World) : Sep [] w w [] := ⟨rfl, rfl, rfl, Nat.le_refl _, fun _ _ _ => rfl, by simp, by simp, .nil⟩
theorem Sep.below (h : Sep [] w W rs) : Below w.heap.size w W := ⟨h.os, h.tape, h.output, h.size, fun b hb => h.block b hb (by simp)⟩
theorem Sep.of_below (h : Below w.heap.size w W) : Sep [] w W [] := ⟨h.os, h.tape, h.output, h.size, fun b hb _ => h.block b hb, by simp, by simp, .nil⟩
theorem Sep.drew (h : Sep S w W rs) : Sep S w W.drew rs := ⟨h.os, h.tape, h.output, h.size, h.block, h.here, h.own, h.apart⟩
theorem Sep.drewN (h : Sep S w W rs) (k : Nat) : Sep S w (W.drewN k) rs := ⟨h.os, h.tape, h.output, h.size, h.block, h.here, h.own, h.apart⟩
theorem Sep.comp (h : Sep S w W (ps ++ rs)) (k : Sep (fps ps) W W' bs) : Sep S w W' (bs ++ rs) := by
 have hap := List.pairwise_append.1 h.apart
 have hne : ∀ r ∈ rs, ∀ g, r.fp = some g → g ∉ fps ps := fun r hr g hg hm => by
  obtain ⟨a, ha, hag⟩ := mem_fps.1 hm
  exact hap.2.2 a ha r hr g hag hg
 have hlt : ∀ r ∈ rs, ∀ g, r.fp = some g → g < W.heap.size := fun r hr g hg => (h.here r (List.mem_append_right _ hr)).lt hg
 refine ⟨k.os.trans h.os, k.tape.trans h.tape, k.output.trans h.output, Nat.le_trans h.size k.size, fun b hb hS => ?_, fun r hr => ?_, fun r hr g hg => ?_, List.pairwise_append.2 ⟨k.apart, hap.2.1, fun x hx y hy g hxg hyg => ?_⟩⟩
 ·refine (k.block b (Nat.lt_of_lt_of_le hb h.size) (fun hm => ?_)).trans (h.block b hb hS)
  obtain ⟨a, ha, hag⟩ := mem_fps.1 hm
  rcases h.own a (List.mem_append_left _ ha) b hag with h1 | h1
  ·exact hS h1
  ·omega
 ·rcases List.mem_append.1 hr with hr | hr
  ·exact k.here r hr
  ·exact (h.here r (List.mem_append_right _ hr)).keep fun g hg => k.block g (hlt r hr g hg) (hne r hr g hg)
 ·rcases List.mem_append.1 hr with hr | hr
  ·rcases k.own r hr g hg with h1 | h1
   ·obtain ⟨a, ha, hag⟩ := mem_fps.1 h1
    exact h.own a (List.mem_append_left _ ha) g hag
   ·exact .inr (Nat.le_trans h.size h1)
  ·exact h.own r (List.mem_append_right _ hr) g hg
 ·rcases k.own x hx g hxg with h1 | h1
  ·exact hne y hy g hyg h1
  ·have := hlt y hy g hyg; omega
theorem Sep.call (h : Sep S w W rs) (hb : Below W.heap.size W W') : Sep S w W' rs := Sep.comp (ps := []) (bs := []) h (Sep.of_below hb)
theorem Sep.new (h : Sep S w W rs) (k : Sep [] W W' bs) : Sep S w W' (bs ++ rs) := Sep.comp (ps := []) h k
theorem Sep.sub (h : Sep S w W rs) (k : bs.Sublist rs) : Sep S w W bs := ⟨h.os, h.tape, h.output, h.size, h.block, fun r hr => h.here r (k.mem hr), fun r hr => h.own r (k.mem hr), h.apart.sublist k⟩
theorem Sep.tail (h : Sep S w W (r :: rs)) : Sep S w W rs := h.sub (List.sublist_cons_self _ _)
theorem Sep.drop (h : Sep S w W rs) (n : Nat) : Sep S w W (rs.drop n) := h.sub (List.drop_sublist n rs)
theorem Sep.take (h : Sep S w W rs) (n : Nat) : Sep S w W (rs.take n) := h.sub (List.take_sublist n rs)
theorem Sep.perm (h : Sep S w W rs) (k : rs.Perm bs) : Sep S w W bs :=
 ⟨h.os, h.tape, h.output, h.size, h.block, fun r hr => h.here r (k.mem_iff.2 hr), fun r hr => h.own r (k.mem_iff.2 hr),
  (k.pairwise_iff (by intro x y hxy g hy hx; exact hxy g hx hy)).1 h.apart⟩
theorem Sep.front (h : Sep S w W rs) (i : Nat) (hi : rs[i]? = some r) : Sep S w W (r :: rs.eraseIdx i) := by
 have hlt : i < rs.length := by
  rcases Nat.lt_or_ge i rs.length with h1 | h1
  ·exact h1
  ·rw [List.getElem?_eq_none h1] at hi; cases hi
 rw [List.getElem?_eq_getElem hlt] at hi
 injection hi with hi
 subst hi
 refine h.perm ?_
 have e : rs = rs.take i ++ rs[i] :: rs.drop (i + 1) := by rw [← List.drop_eq_getElem_cons hlt]; exact (List.take_append_drop i rs).symm
 rw [List.eraseIdx_eq_take_drop_succ]
 calc rs.Perm (rs.take i ++ rs[i] :: rs.drop (i + 1)) := by rw [← e]
  _ |>.Perm (rs[i] :: (rs.take i ++ rs.drop (i + 1))) := List.perm_middle
theorem Sep.back {a : Res} {l1 l2 : List Res} (h : Sep S w W (a :: (l1 ++ l2))) : Sep S w W (l1 ++ a :: l2) := h.perm List.perm_middle.symm
theorem Sep.upd (h : Sep S w W rs) (i : Nat) (r r' : Res) (hi : rs[i]? = some r) (g : Nat) (hg : r.fp = some g) (hg' : ∀ x, r'.fp = some x → x = g) (hr : r'.here W') (ho : W'.os = W.os) (ht : W'.tape = W.tape) (hp : W'.output = W.output) (hs : W.heap.size ≤ W'.heap.size) (hb : ∀ b, b < W.heap.size → b ≠ g → W'.heap[b]? = W.heap[b]?) : Sep S w W' (rs.set i r') := by
 have hlt : i < rs.length := by
  rcases Nat.lt_or_ge i rs.length with h1 | h1
  ·exact h1
  ·rw [List.getElem?_eq_none h1] at hi; cases hi
 have hgl : g < W.heap.size := (h.here r (List.mem_of_getElem? hi)).lt hg
 have k : Sep (fps [r]) W W' [r'] := ⟨ho, ht, hp, hs, fun b hbl hn => hb b hbl (fun e => hn (by subst e; exact mem_fps.2 ⟨r, by simp, hg⟩)), fun x hx => by rw [List.mem_singleton.1 hx]; exact hr, fun x hx y hy => .inl (mem_fps.2 ⟨r, by simp, by rw [List.mem_singleton.1 hx] at hy; rw [hg' y hy]; exact hg⟩), List.pairwise_singleton _ _⟩
 have h2 : Sep S w W' (r' :: rs.eraseIdx i) := Sep.comp (ps := [r]) (h.front i hi) k
 rw [List.eraseIdx_eq_take_drop_succ] at h2
 rw [List.set_eq_take_append_cons_drop, if_pos hlt]
 exact h2.back
theorem Sep.set (h : Sep S w W rs) (i : Nat) {g : Nat} {t : TypeId} {cs : Array Value} (hi : rs[i]? = some (.blk g t cs)) (j : Nat) (u : Value) : Sep S w (W.setCell ⟨g, j, none⟩ u) (rs.set i (.blk g t (cs.setIfInBounds j u))) :=
 h.upd i _ _ hi g rfl (fun x hx => by injection hx with hx; exact hx.symm) (Blk.set_ (h.here _ (List.mem_of_getElem? hi)) j u) rfl rfl rfl (by simp [World.setCell]) (fun b _ hne => Below.heap_setCell W _ u b hne)
theorem Sep.setR (h : Sep S w W rs) (i : Nat) {e : TypeId} {size g n c : Nat} {xs : List Value} (hi : rs[i]? = some (.row e size (.slice (some ⟨g, 0, none⟩) n c) n xs)) (j : Nat) (u : Value) : Sep S w (W.setCell ⟨g, j, none⟩ u) (rs.set i (.row e size (.slice (some ⟨g, 0, none⟩) n c) n (xs.set j u))) :=
 h.upd i _ _ hi g rfl (fun x hx => by injection hx with hx; exact hx.symm) (World.ownsRow.stored (h.here _ (List.mem_of_getElem? hi)) j u).1 rfl rfl rfl (by simp [World.setCell]) (fun b _ hne => Below.heap_setCell W _ u b hne)
theorem Sep.alloc (h : Sep S w W rs) (t : TypeId) (cs : Array Value) (a : Nat) (ha : W.heap.size = a) : Sep S w (W.alloc (.cells cs t)) (.blk a t cs :: rs) := by
 subst ha
 refine Sep.new (bs := [.blk W.heap.size t cs]) h ⟨rfl, rfl, rfl, by simp, fun b hb _ => Below.heap_alloc W _ b hb, fun x hx => ?_, fun x hx g hg => ?_, List.pairwise_singleton _ _⟩
 ·rw [List.mem_singleton.1 hx]; exact Blk.new W t cs
 ·rw [List.mem_singleton.1 hx] at hg; injection hg with hg; exact .inr (Nat.le_of_eq hg)
theorem Sep.allocN (h : Sep S w W rs) (t : TypeId) (cs : Array Value) : Sep S w (W.alloc (.cells cs t)) (.blk W.heap.size t cs :: rs) := h.alloc t cs _ rfl
theorem Sep.blk (h : Sep S w W rs) (i : Nat) {g : Nat} {t : TypeId} {cs : Array Value} (hi : rs[i]? = some (.blk g t cs)) : Blk W g t cs := h.here _ (List.mem_of_getElem? hi)
theorem Sep.cell (h : Sep S w W rs) (i j : Nat) {g : Nat} {t : TypeId} {cs : Array Value} (hi : rs[i]? = some (.blk g t cs)) : W.cell? ⟨g, j, none⟩ = cs[j]? := (h.blk i hi).cell j
theorem Sep.fz (h : Sep S w W rs) (i j : Nat) {g : Nat} {t : TypeId} {cs : Array Value} (hi : rs[i]? = some (.blk g t cs)) : W.frozen? ⟨g, j, none⟩ = false := (h.blk i hi).frozen j
theorem Sep.lt (h : Sep S w W rs) (i : Nat) {g : Nat} {t : TypeId} {cs : Array Value} (hi : rs[i]? = some (.blk g t cs)) : g < W.heap.size := (h.blk i hi).lt
theorem Sep.rowAt (h : Sep S w W rs) (i : Nat) {e : TypeId} {size n : Nat} {v : Value} {xs : List Value} (hi : rs[i]? = some (.row e size v n xs)) : W.ownsRow 0 e size v n xs := h.here _ (List.mem_of_getElem? hi)
theorem own_raise {W : World} {base e size n} {v : Value} {xs : List Value} (h : W.ownsRow 0 e size v n xs) (hb : ∀ g, v.ownBlock = some g → base ≤ g) : W.ownsRow base e size v n xs := by
 refine ⟨h.1, ?_⟩
 rcases h.2 with h2 | ⟨g, cap, cur, hv, _, hg, hr⟩
 ·exact .inl h2
 ·exact .inr ⟨g, cap, cur, hv, hb g (by subst hv; rfl), hg, hr⟩
theorem Sep.ownsAt (h : Sep [] w W rs) (i : Nat) {e : TypeId} {size n : Nat} {v : Value} {xs : List Value} (hi : rs[i]? = some (.row e size v n xs)) : W.ownsRow w.heap.size e size v n xs :=
 own_raise (h.rowAt i hi) fun g hg => by
  rcases h.own _ (List.mem_of_getElem? hi) g hg with h1 | h1
  ·simp at h1
  ·exact h1
theorem Sep.ownR (h : Sep [] w W rs) (i : Nat) {e : TypeId} {size n : Nat} {v : Value} {xs : List Value} (hi : rs[i]? = some (.row e size v n xs)) : OwnR W w.heap.size W.heap.size e size v n xs :=
 ⟨h.ownsAt i hi, fun k hk => (World.ownsRow.lt (h.rowAt i hi) k hk).2⟩
theorem Sep.rowS (h : Sep S w W rs) (i : Nat) {e : TypeId} {size n c : Nat} {A : Option Addr} {xs : List Value} (hi : rs[i]? = some (.row e size (.slice A n c) n xs)) : Row W A xs := Row.of_own (h.rowAt i hi)
theorem sepRow {e : TypeId} {size n : Nat} {v : Value} {xs : List Value} (hb : Below w.heap.size w W) (h : W.ownsRow w.heap.size e size v n xs) : Sep [] w W [.row e size v n xs] :=
 ⟨hb.os, hb.tape, hb.output, hb.size, fun b hlt _ => hb.block b hlt, fun x hx => by rw [List.mem_singleton.1 hx]; exact Own.lower h (Nat.zero_le _), fun x hx g hg => by rw [List.mem_singleton.1 hx] at hg; exact .inr (World.ownsRow.lt h g hg).1, List.pairwise_singleton _ _⟩
theorem sepRows3 {e1 e2 e3 : TypeId} {s1 s2 s3 n1 n2 n3 : Nat} {v1 v2 v3 : Value} {x1 x2 x3 : List Value} {lo : Nat} (hlo : w.heap.size ≤ lo) (hb : Below w.heap.size w W) (h1 : W.ownsRow lo e1 s1 v1 n1 x1) (h2 : W.ownsRow lo e2 s2 v2 n2 x2) (h3 : W.ownsRow lo e3 s3 v3 n3 x3) (d12 : e1 ≠ e2) (d13 : e1 ≠ e3) (d23 : e2 ≠ e3) : Sep [] w W [.row e1 s1 v1 n1 x1, .row e2 s2 v2 n2 x2, .row e3 s3 v3 n3 x3] := by
 have ne : ∀ {e e' s s' n n'} {v v' : Value} {x x'}, W.ownsRow lo e s v n x → W.ownsRow lo e' s' v' n' x' → e ≠ e' → ∀ g, v.ownBlock = some g → v'.ownBlock ≠ some g := fun a b d g h1 h2 => by
  rcases own_ne_own a b d with h | h
  ·rw [h] at h1; cases h1
  ·exact h (h1.trans h2.symm)
 refine ⟨hb.os, hb.tape, hb.output, hb.size, fun b hlt _ => hb.block b hlt, fun x hx => ?_, fun x hx g hg => ?_, ?_⟩
 ·simp only [List.mem_cons, List.not_mem_nil, or_false] at hx
  rcases hx with rfl | rfl | rfl
  ·exact Own.lower h1 (Nat.zero_le _)
  ·exact Own.lower h2 (Nat.zero_le _)
  ·exact Own.lower h3 (Nat.zero_le _)
 ·simp only [List.mem_cons, List.not_mem_nil, or_false] at hx
  rcases hx with rfl | rfl | rfl
  ·exact .inr (Nat.le_trans hlo (World.ownsRow.lt h1 g hg).1)
  ·exact .inr (Nat.le_trans hlo (World.ownsRow.lt h2 g hg).1)
  ·exact .inr (Nat.le_trans hlo (World.ownsRow.lt h3 g hg).1)
 ·refine List.Pairwise.cons ?_ (List.Pairwise.cons ?_ (List.pairwise_singleton _ _))
  ·intro y hy
   simp only [List.mem_cons, List.not_mem_nil, or_false] at hy
   rcases hy with rfl | rfl
   ·exact ne h1 h2 d12
   ·exact ne h1 h3 d13
  ·intro y hy
   simp only [List.mem_cons, List.not_mem_nil, or_false] at hy
   subst hy
   exact ne h2 h3 d23
theorem sepOne {e : TypeId} {size size' n n' : Nat} {v v' : Value} {xs xs' : List Value} (hv : ∀ g, v'.ownBlock = some g → v.ownBlock = some g ∨ w.heap.size ≤ g) (hg : w.grownBy W v.ownBlock) (h : W.ownsRow 0 e size' v' n' xs') : Sep (fps [.row e size v n xs]) w W [.row e size' v' n' xs'] :=
 ⟨hg.os, hg.tape, hg.output, hg.size, fun b hlt hn => hg.block b hlt (fun e' => hn (mem_fps.2 ⟨_, List.mem_singleton_self _, e'.symm⟩)), fun x hx => by rw [List.mem_singleton.1 hx]; exact h, fun x hx g hgx => by
  rw [List.mem_singleton.1 hx] at hgx
  rcases hv g hgx with h1 | h1
  ·exact .inl (mem_fps.2 ⟨_, List.mem_singleton_self _, h1⟩)
  ·exact .inr h1, List.pairwise_singleton _ _⟩
theorem Sep.same (h : Sep S w W (ps ++ rs)) (hb : Below W.heap.size W W') : Sep (fps ps) W W' ps :=
 ⟨hb.os, hb.tape, hb.output, hb.size, fun b hlt _ => hb.block b hlt, fun r hr => (h.here r (List.mem_append_left _ hr)).keep fun g hg => hb.block g ((h.here r (List.mem_append_left _ hr)).lt hg), fun r hr g hg => .inl (mem_fps.2 ⟨r, hr, hg⟩), (List.pairwise_append.1 h.apart).1⟩
theorem Sep.wideS {S' : List Nat} (h : Sep S w W rs) (hS : ∀ g ∈ S, g ∈ S') : Sep S' w W rs := ⟨h.os, h.tape, h.output, h.size, fun b hb hn => h.block b hb (fun hm => hn (hS b hm)), h.here, fun r hr g hg => (h.own r hr g hg).imp (hS g) id, h.apart⟩
end
section
variable {w : World}
theorem Sep.enter2 {o1 o2 : Array Value} {t1 t2 : TypeId} (w : World) : Sep [] w ((w.alloc (.cells o1 t1)).alloc (.cells o2 t2)) [.blk (w.heap.size + 1) t2 o2, .blk w.heap.size t1 o1] :=
 ((Sep.start w).alloc t1 o1 w.heap.size rfl).alloc t2 o2 _ (by simp)
theorem Sep.enter3 {o1 o2 o3 : Array Value} {t1 t2 t3 : TypeId} (w : World) : Sep [] w (((w.alloc (.cells o1 t1)).alloc (.cells o2 t2)).alloc (.cells o3 t3)) [.blk (w.heap.size + 2) t3 o3, .blk (w.heap.size + 1) t2 o2, .blk w.heap.size t1 o1] :=
 (Sep.enter2 w).alloc t3 o3 _ (by simp)
theorem Sep.enter4 {o1 o2 o3 o4 : Array Value} {t1 t2 t3 t4 : TypeId} (w : World) : Sep [] w ((((w.alloc (.cells o1 t1)).alloc (.cells o2 t2)).alloc (.cells o3 t3)).alloc (.cells o4 t4)) [.blk (w.heap.size + 3) t4 o4, .blk (w.heap.size + 2) t3 o3, .blk (w.heap.size + 1) t2 o2, .blk w.heap.size t1 o1] :=
 (Sep.enter3 w).alloc t4 o4 _ (by simp)
theorem Sep.enter5 {o1 o2 o3 o4 o5 : Array Value} {t1 t2 t3 t4 t5 : TypeId} (w : World) : Sep [] w (((((w.alloc (.cells o1 t1)).alloc (.cells o2 t2)).alloc (.cells o3 t3)).alloc (.cells o4 t4)).alloc (.cells o5 t5)) [.blk (w.heap.size + 4) t5 o5, .blk (w.heap.size + 3) t4 o4, .blk (w.heap.size + 2) t3 o3, .blk (w.heap.size + 1) t2 o2, .blk w.heap.size t1 o1] :=
 (Sep.enter4 w).alloc t5 o5 _ (by simp)
end
theorem Sep.set2 {S : List Nat} {w W : World} {rs : List Res} (h : Sep S w W rs) (i : Nat) {g : Nat} {t : TypeId} {x0 x1 : Value} (hi : rs[i]? = some (.blk g t #[x0, x1])) (v0 v1 : Value) : Sep S w ((W.setCell ⟨g, 0, none⟩ v0).setCell ⟨g, 1, none⟩ v1) (rs.set i (.blk g t #[v0, v1])) := by
 have hl : i < rs.length := by
  rcases Nat.lt_or_ge i rs.length with h1 | h1
  ·exact h1
  ·rw [List.getElem?_eq_none h1] at hi; cases hi
 have h2 := (h.set i hi 0 v0).set i (List.getElem?_set_self hl) 1 v1
 rw [List.set_set] at h2
 exact h2
theorem Sep.set5 {S : List Nat} {w W : World} {rs : List Res} (h : Sep S w W rs) (i : Nat) {g : Nat} {t : TypeId} {x0 x1 x2 x3 x4 : Value} (hi : rs[i]? = some (.blk g t #[x0, x1, x2, x3, x4])) (v0 v1 v2 v3 v4 : Value) : Sep S w (((((W.setCell ⟨g, 0, none⟩ v0).setCell ⟨g, 1, none⟩ v1).setCell ⟨g, 2, none⟩ v2).setCell ⟨g, 3, none⟩ v3).setCell ⟨g, 4, none⟩ v4) (rs.set i (.blk g t #[v0, v1, v2, v3, v4])) := by
 have hl : i < rs.length := by
  rcases Nat.lt_or_ge i rs.length with h1 | h1
  ·exact h1
  ·rw [List.getElem?_eq_none h1] at hi; cases hi
 have h2 := ((((h.set i hi 0 v0).set i (List.getElem?_set_self hl) 1 v1).set i (List.getElem?_set_self (by simpa using hl)) 2 v2).set i (List.getElem?_set_self (by simpa using hl)) 3 v3).set i (List.getElem?_set_self (by simpa using hl)) 4 v4
 rw [List.set_set, List.set_set, List.set_set, List.set_set] at h2
 exact h2
theorem Sep.ne {S : List Nat} {w W : World} {rs : List Res} (h : Sep S w W rs) (i j : Nat) (hij : i < j) {r r' : Res} {g g' : Nat} (hi : rs[i]? = some r) (hj : rs[j]? = some r') (hg : r.fp = some g) (hg' : r'.fp = some g') : g ≠ g' ∧ g' ≠ g := by
 have hl : j < rs.length := by
  rcases Nat.lt_or_ge j rs.length with h1 | h1
  ·exact h1
  ·rw [List.getElem?_eq_none h1] at hj; cases hj
 have hp := (List.pairwise_iff_getElem.1 h.apart) i j (by omega) hl hij
 rw [List.getElem?_eq_getElem (by omega)] at hi hj
 injection hi with hi
 injection hj with hj
 subst hi hj
 have h1 : g ≠ g' := fun e => hp g hg (by rw [hg', e])
 exact ⟨h1, fun e => h1 e.symm⟩
theorem Sep.f1 {S : List Nat} {w W : World} {rs : List Res} (h : Sep S w W rs) (i : Nat) {g : Nat} {t : TypeId} {v0 : Value} (hi : rs[i]? = some (.blk g t #[v0])) : g < W.heap.size ∧ W.cell? ⟨g, 0, none⟩ = some v0 ∧ W.frozen? ⟨g, 0, none⟩ = false :=
 ⟨h.lt i hi, h.cell i 0 hi, h.fz i 0 hi⟩
theorem Sep.q1 {S : List Nat} {w W : World} {rs : List Res} (h : Sep S w W rs) (i : Nat) {g : Nat} {t : TypeId} {v0 : Value} (hi : rs[i]? = some (.blk g t #[v0])) : g < W.heap.size ∧ W.cell? ⟨g, 0, none⟩ = some v0 :=
 ⟨h.lt i hi, h.cell i 0 hi⟩
theorem Sep.f2 {S : List Nat} {w W : World} {rs : List Res} (h : Sep S w W rs) (i : Nat) {g : Nat} {t : TypeId} {v0 v1 : Value} (hi : rs[i]? = some (.blk g t #[v0, v1])) : g < W.heap.size ∧ W.cell? ⟨g, 0, none⟩ = some v0 ∧ W.frozen? ⟨g, 0, none⟩ = false ∧ W.cell? ⟨g, 1, none⟩ = some v1 ∧ W.frozen? ⟨g, 1, none⟩ = false :=
 ⟨h.lt i hi, h.cell i 0 hi, h.fz i 0 hi, h.cell i 1 hi, h.fz i 1 hi⟩
theorem Sep.q2 {S : List Nat} {w W : World} {rs : List Res} (h : Sep S w W rs) (i : Nat) {g : Nat} {t : TypeId} {v0 v1 : Value} (hi : rs[i]? = some (.blk g t #[v0, v1])) : g < W.heap.size ∧ W.cell? ⟨g, 0, none⟩ = some v0 ∧ W.cell? ⟨g, 1, none⟩ = some v1 :=
 ⟨h.lt i hi, h.cell i 0 hi, h.cell i 1 hi⟩
theorem Sep.f3 {S : List Nat} {w W : World} {rs : List Res} (h : Sep S w W rs) (i : Nat) {g : Nat} {t : TypeId} {v0 v1 v2 : Value} (hi : rs[i]? = some (.blk g t #[v0, v1, v2])) : g < W.heap.size ∧ W.cell? ⟨g, 0, none⟩ = some v0 ∧ W.frozen? ⟨g, 0, none⟩ = false ∧ W.cell? ⟨g, 1, none⟩ = some v1 ∧ W.frozen? ⟨g, 1, none⟩ = false ∧ W.cell? ⟨g, 2, none⟩ = some v2 ∧ W.frozen? ⟨g, 2, none⟩ = false :=
 ⟨h.lt i hi, h.cell i 0 hi, h.fz i 0 hi, h.cell i 1 hi, h.fz i 1 hi, h.cell i 2 hi, h.fz i 2 hi⟩
theorem Sep.q3 {S : List Nat} {w W : World} {rs : List Res} (h : Sep S w W rs) (i : Nat) {g : Nat} {t : TypeId} {v0 v1 v2 : Value} (hi : rs[i]? = some (.blk g t #[v0, v1, v2])) : g < W.heap.size ∧ W.cell? ⟨g, 0, none⟩ = some v0 ∧ W.cell? ⟨g, 1, none⟩ = some v1 ∧ W.cell? ⟨g, 2, none⟩ = some v2 :=
 ⟨h.lt i hi, h.cell i 0 hi, h.cell i 1 hi, h.cell i 2 hi⟩
theorem Sep.f4 {S : List Nat} {w W : World} {rs : List Res} (h : Sep S w W rs) (i : Nat) {g : Nat} {t : TypeId} {v0 v1 v2 v3 : Value} (hi : rs[i]? = some (.blk g t #[v0, v1, v2, v3])) : g < W.heap.size ∧ W.cell? ⟨g, 0, none⟩ = some v0 ∧ W.frozen? ⟨g, 0, none⟩ = false ∧ W.cell? ⟨g, 1, none⟩ = some v1 ∧ W.frozen? ⟨g, 1, none⟩ = false ∧ W.cell? ⟨g, 2, none⟩ = some v2 ∧ W.frozen? ⟨g, 2, none⟩ = false ∧ W.cell? ⟨g, 3, none⟩ = some v3 ∧ W.frozen? ⟨g, 3, none⟩ = false :=
 ⟨h.lt i hi, h.cell i 0 hi, h.fz i 0 hi, h.cell i 1 hi, h.fz i 1 hi, h.cell i 2 hi, h.fz i 2 hi, h.cell i 3 hi, h.fz i 3 hi⟩
theorem Sep.q4 {S : List Nat} {w W : World} {rs : List Res} (h : Sep S w W rs) (i : Nat) {g : Nat} {t : TypeId} {v0 v1 v2 v3 : Value} (hi : rs[i]? = some (.blk g t #[v0, v1, v2, v3])) : g < W.heap.size ∧ W.cell? ⟨g, 0, none⟩ = some v0 ∧ W.cell? ⟨g, 1, none⟩ = some v1 ∧ W.cell? ⟨g, 2, none⟩ = some v2 ∧ W.cell? ⟨g, 3, none⟩ = some v3 :=
 ⟨h.lt i hi, h.cell i 0 hi, h.cell i 1 hi, h.cell i 2 hi, h.cell i 3 hi⟩
theorem Sep.f5 {S : List Nat} {w W : World} {rs : List Res} (h : Sep S w W rs) (i : Nat) {g : Nat} {t : TypeId} {v0 v1 v2 v3 v4 : Value} (hi : rs[i]? = some (.blk g t #[v0, v1, v2, v3, v4])) : g < W.heap.size ∧ W.cell? ⟨g, 0, none⟩ = some v0 ∧ W.frozen? ⟨g, 0, none⟩ = false ∧ W.cell? ⟨g, 1, none⟩ = some v1 ∧ W.frozen? ⟨g, 1, none⟩ = false ∧ W.cell? ⟨g, 2, none⟩ = some v2 ∧ W.frozen? ⟨g, 2, none⟩ = false ∧ W.cell? ⟨g, 3, none⟩ = some v3 ∧ W.frozen? ⟨g, 3, none⟩ = false ∧ W.cell? ⟨g, 4, none⟩ = some v4 ∧ W.frozen? ⟨g, 4, none⟩ = false :=
 ⟨h.lt i hi, h.cell i 0 hi, h.fz i 0 hi, h.cell i 1 hi, h.fz i 1 hi, h.cell i 2 hi, h.fz i 2 hi, h.cell i 3 hi, h.fz i 3 hi, h.cell i 4 hi, h.fz i 4 hi⟩
theorem Sep.c10 {S : List Nat} {w W : World} {rs : List Res} (h : Sep S w W rs) (i j : Nat) {g k : Nat} {t u : TypeId} {v0 v1 v2 v3 v4 u0 u1 u2 u3 u4 : Value} (hi : rs[i]? = some (.blk g t #[v0, v1, v2, v3, v4])) (hj : rs[j]? = some (.blk k u #[u0, u1, u2, u3, u4])) : W.cell? ⟨g, 0, none⟩ = some v0 ∧ W.cell? ⟨g, 1, none⟩ = some v1 ∧ W.cell? ⟨g, 2, none⟩ = some v2 ∧ W.cell? ⟨g, 3, none⟩ = some v3 ∧ W.cell? ⟨g, 4, none⟩ = some v4 ∧ W.cell? ⟨k, 0, none⟩ = some u0 ∧ W.cell? ⟨k, 1, none⟩ = some u1 ∧ W.cell? ⟨k, 2, none⟩ = some u2 ∧ W.cell? ⟨k, 3, none⟩ = some u3 ∧ W.cell? ⟨k, 4, none⟩ = some u4 :=
 ⟨h.cell i 0 hi, h.cell i 1 hi, h.cell i 2 hi, h.cell i 3 hi, h.cell i 4 hi, h.cell j 0 hj, h.cell j 1 hj, h.cell j 2 hj, h.cell j 3 hj, h.cell j 4 hj⟩
theorem Sep.q5 {S : List Nat} {w W : World} {rs : List Res} (h : Sep S w W rs) (i : Nat) {g : Nat} {t : TypeId} {v0 v1 v2 v3 v4 : Value} (hi : rs[i]? = some (.blk g t #[v0, v1, v2, v3, v4])) : g < W.heap.size ∧ W.cell? ⟨g, 0, none⟩ = some v0 ∧ W.cell? ⟨g, 1, none⟩ = some v1 ∧ W.cell? ⟨g, 2, none⟩ = some v2 ∧ W.cell? ⟨g, 3, none⟩ = some v3 ∧ W.cell? ⟨g, 4, none⟩ = some v4 :=
 ⟨h.lt i hi, h.cell i 0 hi, h.cell i 1 hi, h.cell i 2 hi, h.cell i 3 hi, h.cell i 4 hi⟩
theorem Sep.f6 {S : List Nat} {w W : World} {rs : List Res} (h : Sep S w W rs) (i : Nat) {g : Nat} {t : TypeId} {v0 v1 v2 v3 v4 v5 : Value} (hi : rs[i]? = some (.blk g t #[v0, v1, v2, v3, v4, v5])) : g < W.heap.size ∧ W.cell? ⟨g, 0, none⟩ = some v0 ∧ W.frozen? ⟨g, 0, none⟩ = false ∧ W.cell? ⟨g, 1, none⟩ = some v1 ∧ W.frozen? ⟨g, 1, none⟩ = false ∧ W.cell? ⟨g, 2, none⟩ = some v2 ∧ W.frozen? ⟨g, 2, none⟩ = false ∧ W.cell? ⟨g, 3, none⟩ = some v3 ∧ W.frozen? ⟨g, 3, none⟩ = false ∧ W.cell? ⟨g, 4, none⟩ = some v4 ∧ W.frozen? ⟨g, 4, none⟩ = false ∧ W.cell? ⟨g, 5, none⟩ = some v5 ∧ W.frozen? ⟨g, 5, none⟩ = false :=
 ⟨h.lt i hi, h.cell i 0 hi, h.fz i 0 hi, h.cell i 1 hi, h.fz i 1 hi, h.cell i 2 hi, h.fz i 2 hi, h.cell i 3 hi, h.fz i 3 hi, h.cell i 4 hi, h.fz i 4 hi, h.cell i 5 hi, h.fz i 5 hi⟩
theorem Sep.q6 {S : List Nat} {w W : World} {rs : List Res} (h : Sep S w W rs) (i : Nat) {g : Nat} {t : TypeId} {v0 v1 v2 v3 v4 v5 : Value} (hi : rs[i]? = some (.blk g t #[v0, v1, v2, v3, v4, v5])) : g < W.heap.size ∧ W.cell? ⟨g, 0, none⟩ = some v0 ∧ W.cell? ⟨g, 1, none⟩ = some v1 ∧ W.cell? ⟨g, 2, none⟩ = some v2 ∧ W.cell? ⟨g, 3, none⟩ = some v3 ∧ W.cell? ⟨g, 4, none⟩ = some v4 ∧ W.cell? ⟨g, 5, none⟩ = some v5 :=
 ⟨h.lt i hi, h.cell i 0 hi, h.cell i 1 hi, h.cell i 2 hi, h.cell i 3 hi, h.cell i 4 hi, h.cell i 5 hi⟩
theorem Sep.f7 {S : List Nat} {w W : World} {rs : List Res} (h : Sep S w W rs) (i : Nat) {g : Nat} {t : TypeId} {v0 v1 v2 v3 v4 v5 v6 : Value} (hi : rs[i]? = some (.blk g t #[v0, v1, v2, v3, v4, v5, v6])) : g < W.heap.size ∧ W.cell? ⟨g, 0, none⟩ = some v0 ∧ W.frozen? ⟨g, 0, none⟩ = false ∧ W.cell? ⟨g, 1, none⟩ = some v1 ∧ W.frozen? ⟨g, 1, none⟩ = false ∧ W.cell? ⟨g, 2, none⟩ = some v2 ∧ W.frozen? ⟨g, 2, none⟩ = false ∧ W.cell? ⟨g, 3, none⟩ = some v3 ∧ W.frozen? ⟨g, 3, none⟩ = false ∧ W.cell? ⟨g, 4, none⟩ = some v4 ∧ W.frozen? ⟨g, 4, none⟩ = false ∧ W.cell? ⟨g, 5, none⟩ = some v5 ∧ W.frozen? ⟨g, 5, none⟩ = false ∧ W.cell? ⟨g, 6, none⟩ = some v6 ∧ W.frozen? ⟨g, 6, none⟩ = false :=
 ⟨h.lt i hi, h.cell i 0 hi, h.fz i 0 hi, h.cell i 1 hi, h.fz i 1 hi, h.cell i 2 hi, h.fz i 2 hi, h.cell i 3 hi, h.fz i 3 hi, h.cell i 4 hi, h.fz i 4 hi, h.cell i 5 hi, h.fz i 5 hi, h.cell i 6 hi, h.fz i 6 hi⟩
theorem Sep.q7 {S : List Nat} {w W : World} {rs : List Res} (h : Sep S w W rs) (i : Nat) {g : Nat} {t : TypeId} {v0 v1 v2 v3 v4 v5 v6 : Value} (hi : rs[i]? = some (.blk g t #[v0, v1, v2, v3, v4, v5, v6])) : g < W.heap.size ∧ W.cell? ⟨g, 0, none⟩ = some v0 ∧ W.cell? ⟨g, 1, none⟩ = some v1 ∧ W.cell? ⟨g, 2, none⟩ = some v2 ∧ W.cell? ⟨g, 3, none⟩ = some v3 ∧ W.cell? ⟨g, 4, none⟩ = some v4 ∧ W.cell? ⟨g, 5, none⟩ = some v5 ∧ W.cell? ⟨g, 6, none⟩ = some v6 :=
 ⟨h.lt i hi, h.cell i 0 hi, h.cell i 1 hi, h.cell i 2 hi, h.cell i 3 hi, h.cell i 4 hi, h.cell i 5 hi, h.cell i 6 hi⟩
theorem Sep.gset2 {S : List Nat} {w W : World} {rs : List Res} (h : Sep S w W rs) (i : Nat) {g : Nat} {t : TypeId} {x0 x1 : Value} (hi : rs[i]? = some (.blk g t #[x0, x1])) (v0 v1 : Value) : ∃ W', ((W.setCell ⟨g, 0, none⟩ v0).setCell ⟨g, 1, none⟩ v1) = W' ∧ Sep S w W' (rs.set i (.blk g t #[v0, v1])) := by
 have hl : i < rs.length := by
  rcases Nat.lt_or_ge i rs.length with h1 | h1
  ·exact h1
  ·rw [List.getElem?_eq_none h1] at hi; cases hi
 have h2 := ((h.set i hi 0 v0).set i (List.getElem?_set_self (by simpa using hl)) 1 v1)
 simp only [List.set_set] at h2
 exact ⟨_, rfl, h2⟩
theorem Sep.gset3 {S : List Nat} {w W : World} {rs : List Res} (h : Sep S w W rs) (i : Nat) {g : Nat} {t : TypeId} {x0 x1 x2 : Value} (hi : rs[i]? = some (.blk g t #[x0, x1, x2])) (v0 v1 v2 : Value) : ∃ W', (((W.setCell ⟨g, 0, none⟩ v0).setCell ⟨g, 1, none⟩ v1).setCell ⟨g, 2, none⟩ v2) = W' ∧ Sep S w W' (rs.set i (.blk g t #[v0, v1, v2])) := by
 have hl : i < rs.length := by
  rcases Nat.lt_or_ge i rs.length with h1 | h1
  ·exact h1
  ·rw [List.getElem?_eq_none h1] at hi; cases hi
 have h2 := (((h.set i hi 0 v0).set i (List.getElem?_set_self (by simpa using hl)) 1 v1).set i (List.getElem?_set_self (by simpa using hl)) 2 v2)
 simp only [List.set_set] at h2
 exact ⟨_, rfl, h2⟩
theorem Sep.gset5 {S : List Nat} {w W : World} {rs : List Res} (h : Sep S w W rs) (i : Nat) {g : Nat} {t : TypeId} {x0 x1 x2 x3 x4 : Value} (hi : rs[i]? = some (.blk g t #[x0, x1, x2, x3, x4])) (v0 v1 v2 v3 v4 : Value) : ∃ W', (((((W.setCell ⟨g, 0, none⟩ v0).setCell ⟨g, 1, none⟩ v1).setCell ⟨g, 2, none⟩ v2).setCell ⟨g, 3, none⟩ v3).setCell ⟨g, 4, none⟩ v4) = W' ∧ Sep S w W' (rs.set i (.blk g t #[v0, v1, v2, v3, v4])) := by
 have hl : i < rs.length := by
  rcases Nat.lt_or_ge i rs.length with h1 | h1
  ·exact h1
  ·rw [List.getElem?_eq_none h1] at hi; cases hi
 have h2 := (((((h.set i hi 0 v0).set i (List.getElem?_set_self (by simpa using hl)) 1 v1).set i (List.getElem?_set_self (by simpa using hl)) 2 v2).set i (List.getElem?_set_self (by simpa using hl)) 3 v3).set i (List.getElem?_set_self (by simpa using hl)) 4 v4)
 simp only [List.set_set] at h2
 exact ⟨_, rfl, h2⟩
theorem Sep.galloc {S : List Nat} {w W : World} {rs : List Res} (h : Sep S w W rs) (t : TypeId) (cs : Array Value) : ∃ W', W.alloc (.cells cs t) = W' ∧ Sep S w W' (.blk W.heap.size t cs :: rs) := ⟨_, rfl, h.allocN t cs⟩
end Go.Proofs.YtfkdfkoigojciaaGreatDoor
