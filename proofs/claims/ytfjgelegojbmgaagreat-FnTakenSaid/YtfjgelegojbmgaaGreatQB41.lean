/- The cursor as a thing of a call's own. No condition. -/
import Derived.Test.YtfjgelegojbmgaaGreatQB33

namespace Go.Proofs.YtfjgelegojbmgaaGreat
open Go.RowKit
set_option linter.unusedVariables false
theorem sepCur {g : Nat} {t : TypeId} {cs : Array Value} {w W : World} (hb : Below w.heap.size w W) (hg : w.heap.size ≤ g) (h : Sep [g] W W [.blk g t cs]) : Sep [] w W [.blk g t cs] :=
 ⟨hb.os, hb.tape, hb.output, hb.size, fun b hb' _ => hb.block b hb', h.here, fun r hr q hq => by
  obtain rfl := List.mem_singleton.1 hr
  injection hq with hq
  subst hq
  exact .inr hg, h.apart⟩
theorem Sep.curIn {B g len cap : Nat} {A : Option Addr} {w W : World} {rs : List Res} {cs : Array Value} (h : Sep [] w W rs) (i : Nat) (hi : rs[i]? = some (.blk g 109 cs)) (hc : curC A len cap cs) (hB : B ≤ w.heap.size) (hl : len ≤ 4096) (hby : Bytes w B A len) : CurAt B W g A len cap := by
 obtain ⟨k, y, rfl, hk⟩ := hc
 have hg : w.heap.size ≤ g := (h.own _ (List.mem_of_getElem? hi) g rfl).elim (fun h1 => by simp at h1) id
 exact ⟨by omega, hl, hby.keep fun b hb => h.block b (by omega) (by simp), k, y, h.blk i hi, hk⟩
theorem Sep.curGo {B g len cap : Nat} {A : Option Addr} {w W W' : World} {rs : List Res} {cs : Array Value} (h : Sep [] w W rs) (i : Nat) (hi : rs[i]? = some (.blk g 109 cs)) (gg : W.grownBy W' (some g)) (d : CurAt B W' g A len cap) : ∃ cs', curC A len cap cs' ∧ Sep [] w W' (rs.set i (.blk g 109 cs')) := by
 obtain ⟨h1, h2, h3, j, x, h4, h5⟩ := d
 exact ⟨_, ⟨j, x, rfl, h5⟩, h.upd i _ _ hi g rfl (fun y hy => by injection hy with hy; exact hy.symm) h4 gg.os gg.tape gg.output gg.size (fun b hb hne => gg.block b hb (by intro e; injection e with e; exact hne e))⟩
/-- The cells of one task in a row. -/
theorem Row.cells7 {W : World} {ts : List T7} {b off k : Nat} {s l o wt on v t : Int} (h : Row W (some ⟨b, off, none⟩) (tcells ts)) (hx : ts[k]? = some ⟨s, l, o, wt, on, v, t⟩) :
 W.cell? ⟨b, off + k * 7, none⟩ = some (.int .i64 s) ∧ W.cell? ⟨b, off + k * 7 + 1, none⟩ = some (.int .i64 l) ∧ W.cell? ⟨b, off + k * 7 + 2, none⟩ = some (.int .i64 o) ∧ W.cell? ⟨b, off + k * 7 + 3, none⟩ = some (.int .i64 wt) ∧
  W.cell? ⟨b, off + k * 7 + 4, none⟩ = some (.int .i64 on) ∧ W.cell? ⟨b, off + k * 7 + 5, none⟩ = some (.int .i64 v) ∧ W.cell? ⟨b, off + k * 7 + 6, none⟩ = some (.int .i64 t) := by
 obtain ⟨b2, off2, s', l', o', wt', on', v', t', e, _, hx2, _, z⟩ := h.ts_at (List.getElem?_eq_some_iff.1 hx).1
 rw [hx] at hx2
 injection hx2 with hx2
 injection hx2 with u0 u1 u2 u3 u4 u5 u6
 injection e with e
 injection e with e1 e2
 subst u0 u1 u2 u3 u4 u5 u6 e1 e2
 exact z
theorem Sep.al1 {S : List Nat} {w W : World} {rs : List Res} (h : Sep S w W rs) (t : TypeId) (cs : Array Value) : ∃ (a : Nat) (W' : World), W.heap.size = a ∧ W.alloc (.cells cs t) = W' ∧ Sep S w W' (.blk a t cs :: rs) := ⟨_, _, rfl, rfl, h.alloc t cs _ rfl⟩
theorem Sep.al2 {S : List Nat} {w W : World} {rs : List Res} (h : Sep S w W rs) (t1 : TypeId) (c1 : Array Value) (t2 : TypeId) (c2 : Array Value) : ∃ (a b : Nat) (W' : World), W.heap.size = a ∧ W.heap.size + 1 = b ∧ (W.alloc (.cells c1 t1)).alloc (.cells c2 t2) = W' ∧ Sep S w W' (.blk b t2 c2 :: .blk a t1 c1 :: rs) :=
 ⟨_, _, _, rfl, rfl, rfl, (h.alloc t1 c1 _ rfl).alloc t2 c2 _ (by simp)⟩
end Go.Proofs.YtfjgelegojbmgaaGreat
