import Derived.Test.YtfkdfkoigojciaaGreatDoorQU01
import Derived.Deep.RegionLaw
import Derived.Test.YtfkdfkoigojciaaGreatDoorQU02

namespace Go.Proofs.YtfkdfkoigojciaaGreatDoor
open Go.RowKit
set_option linter.unusedVariables false
theorem run_append_row {P : Program} {w : World} (base : Nat) (t ty e : TypeId) (i : TypeInfo) (z : Value) (size bytes : Nat) (ht : P.underlying t = some (.slice e)) (hi : P.info? e = some i) (hz : i.zero = some z)
 (hsize : i.size = size) (hby : i.bytes = bytes) (hzs : z.cells.size = size) (hsz : 0 < size) (v : Value) (n : Nat) (xs : List Value) (hown : w.ownsRow base e size v n xs)
 (sp : Option Addr) (m c : Nat) (news : List Value) (hl : news.length = m * size) (hrow : Row w sp news) (h1 : ∀ u ∈ news, u.oneCell' = true)
 (h63 : n + m ≤ maxLen) (hbytes : (n + m) * bytes ≤ 140737488355328) (hbase : base ≤ w.heap.size) :
 ∃ v' w', (Builtin.append_ #[t, t] ty #[v, .slice sp m c]).run P w = .ok v' w' ∧ w'.ownsRow base e size v' (n + m) (xs ++ news) ∧ w.grownBy w' v.ownBlock ∧ (v' = .slice none 0 0 ↔ v = .slice none 0 0 ∧ m = 0) := by
 rcases Nat.eq_zero_or_pos news.length with h0 | h0
 ·have hm : m = 0 := by
   rcases Nat.eq_zero_or_pos m with h | h
   ·exact h
   ·have := Nat.mul_pos h hsz; omega
  obtain rfl : news = [] := List.eq_nil_of_length_eq_zero h0
  subst hm
  cases sp with
  | some a => exact run_append_own w base t ty e i z size bytes ht hi hz hsize hby hzs hsz v n xs hown a 0 c [] (by simp) (by simp) h1 h63 hbytes hbase
  | none =>
   refine ⟨v, w, ?_, by simpa using hown, World.grownBy.refl _ _, by simp⟩
   rcases hown.2 with ⟨rfl, rfl⟩ | ⟨g, cap, cur, rfl, _, _, hnc, _⟩
   ·simp [Builtin.append_, run_underlying ht, sizeOf, typeInfo, hi, Builtin.lenOf, Builtin.firstCells]
   ·simp [Builtin.append_, run_underlying ht, sizeOf, typeInfo, hi, Builtin.lenOf, Builtin.firstCells, hnc, storeCells]
 ·obtain ⟨b, off, rfl, hc⟩ := hrow h0
  refine run_append_own w base t ty e i z size bytes ht hi hz hsize hby hzs hsz v n xs hown ⟨b, off, none⟩ m c news hl (fun j u hu => ?_) h1 h63 hbytes hbase
  rw [show (⟨b, off, none⟩ : Addr).add j = ⟨b, off + j, none⟩ from by unfold Addr.add; split <;> simp_all]
  exact hc j u hu
theorem wpList_append_row {P : Program} {w : World} {ops : Array Oper} {rest : List Oper} {o : Oper} {a : Act} {Q : Exit → Act → World → Prop} (hgd : o.guard = none) (s x : Operand) (t : TypeId)
 (ho : o.op = .call { callee := .builtin .append, args := #[s, x], argTypes := #[t, t] })
 (base : Nat) (e : TypeId) (i : TypeInfo) (z : Value) (size bytes : Nat) (ht : P.underlying t = some (.slice e)) (hi : P.info? e = some i) (hz : i.zero = some z)
 (hsize : i.size = size) (hby : i.bytes = bytes) (hzs : z.cells.size = size) (hsz : 0 < size)
 (v : Value) (n : Nat) (xs : List Value) (hs : a.eval s = v) (hown : w.ownsRow base e size v n xs)
 (sp : Option Addr) (m c : Nat) (news : List Value) (hx : a.eval x = .slice sp m c) (hl : news.length = m * size) (hrow : Row w sp news) (h1 : ∀ u ∈ news, u.oneCell' = true)
 (h63 : n + m ≤ maxLen) (hbytes : (n + m) * bytes ≤ 140737488355328) (hbase : base ≤ w.heap.size)
 (h : ∀ v' w', w'.ownsRow base e size v' (n + m) (xs ++ news) → w.grownBy w' v.ownBlock → (v' = .slice none 0 0 ↔ v = .slice none 0 0 ∧ m = 0) → wpList P ops Q rest (a.put o.dst v') w') : wpList P ops Q (o :: rest) a w := by
 refine wpList_plain hgd fun K hK => ?_
 obtain ⟨v', w', hrun, r1, r2, r3⟩ := run_append_row (P := P) (w := w) base t o.type e i z size bytes ht hi hz hsize hby hzs hsz v n xs hown sp m c news hl hrow h1 h63 hbytes hbase
 unfold Oper.wp
 simp [execOp, ho, resolve, invoke, builtin, hs, hx, hrun, Result.andThen]
 exact hK _ _ (h v' w' r1 r2 r3)
theorem step_append_row {P : Program} {ops : Array Oper} {o : Oper} {a : Act} {w : World} {K : Act → World → Prop} {Q : Exit → Act → World → Prop} {E : Prop} (hgd : o.guard = none) (s x : Operand) (t : TypeId)
 (ho : o.op = .call { callee := .builtin .append, args := #[s, x], argTypes := #[t, t] })
 (base : Nat) (e : TypeId) (i : TypeInfo) (z : Value) (size bytes : Nat) (ht : P.underlying t = some (.slice e)) (hi : P.info? e = some i) (hz : i.zero = some z)
 (hsize : i.size = size) (hby : i.bytes = bytes) (hzs : z.cells.size = size) (hsz : 0 < size)
 (v : Value) (n : Nat) (xs : List Value) (hs : a.eval s = v) (hown : w.ownsRow base e size v n xs)
 (sp : Option Addr) (m c : Nat) (news : List Value) (hx : a.eval x = .slice sp m c) (hl : news.length = m * size) (hrow : Row w sp news) (h1 : ∀ u ∈ news, u.oneCell' = true)
 (h63 : n + m ≤ maxLen) (hbytes : (n + m) * bytes ≤ 140737488355328) (hbase : base ≤ w.heap.size)
 (h : ∀ v' w', w'.ownsRow base e size v' (n + m) (xs ++ news) → w.grownBy w' v.ownBlock → (v' = .slice none 0 0 ↔ v = .slice none 0 0 ∧ m = 0) → K (a.put o.dst v') w') :
 if Region.wanted o (yielded ops a.tmps) = true then Oper.wp P o a w K Q else E := by
 have hw : Region.wanted o (yielded ops a.tmps) = true := by simp [Region.wanted, hgd]
 rw [if_pos hw]
 obtain ⟨v', w', hrun, r1, r2, r3⟩ := run_append_row (P := P) (w := w) base t o.type e i z size bytes ht hi hz hsize hby hzs hsz v n xs hown sp m c news hl hrow h1 h63 hbytes hbase
 unfold Oper.wp
 simp [execOp, ho, resolve, invoke, builtin, hs, hx, hrun, Result.andThen]
 exact h v' w' r1 r2 r3
theorem step_append_lit {P : Program} {ops : Array Oper} {o : Oper} {a : Act} {w : World} {K : Act → World → Prop} {Q : Exit → Act → World → Prop} {E : Prop} (hgd : o.guard = none) (s x : Operand) (t : TypeId)
 (ho : o.op = .call { callee := .builtin .append, args := #[s, x], argTypes := #[t, t] })
 (lo : Nat) (e : TypeId) (i : TypeInfo) (z : Value) (size bytes : Nat) (ht : P.underlying t = some (.slice e)) (hi : P.info? e = some i) (hz : i.zero = some z)
 (hsize : i.size = size) (hby : i.bytes = bytes) (hzs : z.cells.size = size) (hsz : 0 < size)
 (a0 : Nat) (hs : a.eval s = .slice (some ⟨a0, 0, none⟩) 0 0) (hl : Blk w a0 e #[]) (hlo : lo ≤ a0)
 (sp : Option Addr) (m c : Nat) (news : List Value) (hx : a.eval x = .slice sp m c) (hn : news.length = m * size) (hrow : Row w sp news) (h1 : ∀ u ∈ news, u.oneCell' = true)
 (h63 : m ≤ maxLen) (hbytes : m * bytes ≤ 140737488355328)
 (h : ∀ g c' w', Blk w a0 e #[] → OwnR w' lo w'.heap.size e size (.slice (some ⟨g, 0, none⟩) m c') m news → w.grownBy w' (some a0) → K (a.put o.dst (.slice (some ⟨g, 0, none⟩) m c')) w') :
 if Region.wanted o (yielded ops a.tmps) = true then Oper.wp P o a w K Q else E := by
 have hown : w.ownsRow lo e size (.slice (some ⟨a0, 0, none⟩) 0 0) 0 [] := ⟨by simp, .inr ⟨a0, 0, #[], rfl, hlo, hl, Nat.le_refl _, Nat.zero_le _, by simp, by simp⟩⟩
 refine step_append_row hgd s x t ho lo e i z size bytes ht hi hz hsize hby hzs hsz (.slice (some ⟨a0, 0, none⟩) 0 0) 0 [] hs hown sp m c news hx hn hrow h1 (by omega) (by rw [Nat.zero_add]; exact hbytes) (by have := hl.lt; omega) ?_
 intro v' w' r1 r2 r3
 rw [Nat.zero_add, List.nil_append] at r1
 rcases r1.2 with ⟨e1, _⟩ | ⟨g, cap, cur, e1, h2, h3, h4, h5, h6, h7⟩
 ·exact absurd (r3.1 e1).1 (by simp)
 ·subst e1
  exact h g cap w' hl (OwnR.of r1 (Nat.le_refl _)) r2
theorem OwnR.grownT {w w' : World} {lo hi a0 : Nat} {e t : TypeId} {size n : Nat} {v : Value} {xs : List Value} (h : OwnR w lo hi e size v n xs) (hl : Blk w a0 t #[]) (hne : e ≠ t) (hg : w.grownBy w' (some a0)) : OwnR w' lo hi e size v n xs :=
 ⟨h.1.kept hg (.inr (own_blk_ne h.1 hl hne)), h.2⟩
theorem Own.cut {w : World} {base : Nat} {e : TypeId} {size g n c k : Nat} {xs : List Value} (h : w.ownsRow base e size (.slice (some ⟨g, 0, none⟩) n c) n xs) (hk : k ≤ n) : w.ownsRow base e size (.slice (some ⟨g, 0, none⟩) k c) k (xs.take (k * size)) := by
 rcases h.2 with ⟨hv, _⟩ | ⟨g', cap, cur, hv, hb, hh, h1, h2, h3, h4⟩
 ·cases hv
 ·injection hv with e1 e2 e3
  injection e1 with e1
  injection e1 with e1
  subst e1 e3
  have hle : k * size ≤ n * size := Nat.mul_le_mul_right _ hk
  refine ⟨by rw [List.length_take, h.1]; omega, .inr ⟨g, c, cur, rfl, hb, hh, by omega, h2, h3, ?_⟩⟩
  rw [← h4, List.take_take]; congr 1; omega
theorem Row.tail {w : World} {g k : Nat} {xs : List Value} (h : Row w (some ⟨g, 0, none⟩) xs) (A : Option Addr) (hA : k < xs.length → A = some ⟨g, k, none⟩) : Row w A (xs.drop k) := by
 intro hl
 rw [List.length_drop] at hl
 obtain ⟨b, off, e, hc⟩ := h (by omega)
 injection e with e; injection e with e1 e2; subst e1 e2
 refine ⟨g, k, hA (by omega), fun j u hu => ?_⟩
 rw [List.getElem?_drop] at hu
 have := hc _ u hu
 rwa [Nat.zero_add] at this
set_option maxHeartbeats 1000000
def runM : List T7 → Int → Int → Int
 | [], _, _ => -1
 | t :: r, w, i => if t.s = 2 ∧ t.o = w then i else runM r w (i + 1)
theorem sRunBy_any (ts : List T7) (A0 A1 A2 : Option Addr) (c0 n1 c1 n2 c2 : Nat) (tn : Int) (st : Bool) (wk : Int) (w : World) (hlen : ts.length ≤ 1048576) (h0 : Row w A0 (tcells ts)) :
 Calls Tryz.prog 18 #[.agg #[.slice A0 ts.length c0, .slice A1 n1 c1, .slice A2 n2 c2, .int .i64 tn, .bool st], .int .i64 wk] w fun r w' => r = .returned (.int .i64 (runM ts wk 0)) ∧ Below w.heap.size w w' := by
 have H0 := hide h0
 clear h0
 go_enter Tryz.func18, Tryz.ntmps18
 go_wp2
 go_loopw [5] (fun i wr => ∃ (k : Nat), k ≤ ts.length ∧ i = .int .i64 k ∧ runM ts wk 0 = runM (ts.drop k) wk k ∧ Below w.heap.size w wr ∧ Blk wr w.heap.size 35 #[.slice A0 ts.length c0, .slice A1 n1 c1, .slice A2 n2 c2, .int .i64 tn, .bool st]) (fun i _ => ts.length - (intOf i).toNat)
 case atStart => exact ⟨0, Nat.zero_le _, rfl, rfl, by go_grown, Blk.new _ _ _⟩
 case round =>
  obtain ⟨k, hk, rfl, hm, hbel, hblk⟩ := hrel
  have hsz := hbel.size
  have d0 : wr.cell? ⟨w.heap.size, 0, none⟩ = some (.slice A0 ts.length c0) := hblk.cell 0
  have Hm := hide hm
  clear hm
  by_cases hlt : k < ts.length
  ·obtain ⟨b, off, s, l, o, wt, on, v, t, rfl, hd, _, _, z0, z1, z2, z3, z4, z5, z6⟩ := (H0.out.below hbel).ts_at hlt
   have Hd := hide hd
   clear hd
   by_cases h1 : s = 2
   ·by_cases h2 : o = wk
    ·go_wp2
     go_ret
     refine ⟨?_, by go_grown⟩
     rw [Hm.out, Hd.out]; simp [runM, h1, h2]
    ·go_wp2
     go_roundw
     case rel => exact ⟨k + 1, by omega, by go_num, by rw [Hm.out, Hd.out]; simp [runM, h1, h2], by go_grown, hblk⟩
     case measure => simp [intOf]; omega
   ·go_wp2
    go_roundw
    case rel => exact ⟨k + 1, by omega, by go_num, by rw [Hm.out, Hd.out]; simp [runM, h1], by go_grown, hblk⟩
    case measure => simp [intOf]; omega
  ·go_wp2
   go_ret
   obtain rfl : k = ts.length := by omega
   refine ⟨?_, by go_grown⟩
   rw [Hm.out]; simp [runM]
theorem runBy_any (ts : List T7) (A0 A1 A2 : Option Addr) (c0 n1 c1 n2 c2 : Nat) (tn : Int) (st : Bool) (wk : Int) (g : Nat) (w : World) (hlen : ts.length ≤ 1048576) (hg : Blk w g 35 #[.slice A0 ts.length c0, .slice A1 n1 c1, .slice A2 n2 c2, .int .i64 tn, .bool st]) (h0 : Row w A0 (tcells ts)) :
 Calls Tryz.prog 127 #[.pointer (some ⟨g, 0, none⟩), .int .i64 wk] w fun r w' => r = .returned (.int .i64 (runM ts wk 0)) ∧ Below w.heap.size w w' := by
 have H0 := hide h0
 clear h0
 have d0 : w.cell? ⟨g, 0, none⟩ = some (.slice A0 ts.length c0) := hg.cell 0
 go_enter Tryz.func127, Tryz.ntmps127
 go_wp2
 go_loopw [12] (fun i wr => ∃ (k : Nat), k ≤ ts.length ∧ i = .int .i64 k ∧ runM ts wk 0 = runM (ts.drop k) wk k ∧ Below w.heap.size w wr) (fun i _ => ts.length - (intOf i).toNat)
 case atStart => exact ⟨0, Nat.zero_le _, rfl, rfl, Below.refl _ _⟩
 case round =>
  obtain ⟨k, hk, rfl, hm, hbel⟩ := hrel
  have hsz := hbel.size
  have Hm := hide hm
  clear hm
  by_cases hlt : k < ts.length
  ·obtain ⟨b, off, s, l, o, wt, on, v, t, rfl, hd, _, _, z0, z1, z2, z3, z4, z5, z6⟩ := (H0.out.below hbel).ts_at hlt
   have Hd := hide hd
   clear hd
   by_cases h1 : s = 2
   ·by_cases h2 : o = wk
    ·go_wp2
     go_ret
     refine ⟨?_, by go_grown⟩
     rw [Hm.out, Hd.out]; simp [runM, h1, h2]
    ·go_wp2
     go_roundw
     case rel => exact ⟨k + 1, by omega, by go_num, by rw [Hm.out, Hd.out]; simp [runM, h1, h2], by go_grown⟩
     case measure => simp [intOf]; omega
   ·go_wp2
    go_roundw
    case rel => exact ⟨k + 1, by omega, by go_num, by rw [Hm.out, Hd.out]; simp [runM, h1], by go_grown⟩
    case measure => simp [intOf]; omega
  ·go_wp2
   go_ret
   obtain rfl : k = ts.length := by omega
   refine ⟨?_, by go_grown⟩
   rw [Hm.out]; simp [runM]
end Go.Proofs.YtfkdfkoigojciaaGreatDoor
