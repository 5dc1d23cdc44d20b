/- append to a row of one's own, by things in memory: what comes of it lies in the old row's block or in a new one. No condition. -/
import Derived.Test.YtgncjcnobojgbaaQFnLines05
import Derived.Test.YtgncjcnobojgbaaQFnLines04
import Derived.ArgAppend

namespace Go.Proofs.Ytgncjcnobojgbaa
open Go.RowKit
set_option linter.unusedVariables false

/-- A block is taken as a row. -/
theorem sepOneB {w w' : World} {g : Nat} {t e : TypeId} {cs : Array Value} {size n : Nat} {v : Value} {xs : List Value} (hv : ∀ k, v.ownBlock = some k → some g = some k) (hg : w.grownBy w' (some g)) (h : w'.ownsRow 0 e size v n xs) : Sep (fps [.blk g t cs]) w w' [.row e size v n xs] :=
  ⟨hg.os, hg.tape, hg.output, hg.size, fun b hlt hn => hg.block b hlt (fun e' => hn (mem_fps.2 ⟨_, List.mem_singleton_self _, e'.symm⟩)), fun x hx => by rw [List.mem_singleton.1 hx]; exact h, fun x hx k hgx => by
    rw [List.mem_singleton.1 hx] at hgx
    exact .inl (mem_fps.2 ⟨_, List.mem_singleton_self _, hv k hgx⟩), List.pairwise_singleton _ _⟩

theorem run_append_sep {P : Program} {w : World} (t ty e : TypeId) (i : TypeInfo) (z : Value) (size bytes : Nat) (ht : P.underlying t = some (.slice e)) (hi : P.info? e = some i) (hz : i.zero = some z)
    (hsize : i.size = size) (hby : i.bytes = bytes) (hzs : z.cells.size = size) (hsz : 0 < size) (A : Option Addr) (n c : Nat) (xs : List Value) (hown : w.ownsRow 0 e size (.slice A n c) n xs)
    (sp : Addr) (m cc : Nat) (news : List Value) (hl : news.length = m * size) (hrow : Row w (some sp) news) (hne : 0 < news.length) (h1 : ∀ u ∈ news, u.oneCell' = true)
    (h63 : n + m ≤ maxLen) (hbytes : (n + m) * bytes ≤ 140737488355328) :
    ∃ A' c' w', (Builtin.append_ #[t, t] ty #[.slice A n c, .slice (some sp) m cc]).run P w = .ok (.slice A' (n + m) c') w' ∧ Sep (fps [.row e size (.slice A n c) n xs]) w w' [.row e size (.slice A' (n + m) c') (n + m) (xs ++ news)] := by
  obtain ⟨b, off, hsp, hc⟩ := hrow hne
  injection hsp with hsp
  subst hsp
  have hnews : ∀ j u, news[j]? = some u → w.cell? ((⟨b, off, none⟩ : Addr).add j) = some u := fun j u hu => by
    rw [show (⟨b, off, none⟩ : Addr).add j = ⟨b, off + j, none⟩ from by unfold Addr.add; split <;> simp_all]
    exact hc j u hu
  have hm : 0 < m := by
    rcases Nat.eq_zero_or_pos m with h | h
    · subst h; rw [Nat.zero_mul] at hl; omega
    · exact h
  -- the result's make
  have form : ∀ {base : Nat} {v' : Value} {w' : World}, w'.ownsRow base e size v' (n + m) (xs ++ news) → ∃ g c', v' = .slice (some ⟨g, 0, none⟩) (n + m) c' ∧ base ≤ g := fun h => by
    rcases h.2 with ⟨_, h0⟩ | ⟨g, cap, cur, hv, hb, _⟩
    · omega
    · exact ⟨g, cap, hv, hb⟩
  rcases hown.2 with ⟨hv, hn0⟩ | ⟨g, cap, cur, hv, hbg, hg, hnc, hcm, hcs, htake⟩
  · injection hv with hA _ hcc
    have hx : xs = [] := List.eq_nil_of_length_eq_zero (by rw [hown.1, hn0]; simp)
    subst hA hcc hn0 hx
    obtain ⟨v', w', hr, ho, hgr, _⟩ := run_append_own (P := P) w w.heap.size t ty e i z size bytes ht hi hz hsize hby hzs hsz _ 0 [] (World.ownsRow_nil w _ e size) ⟨b, off, none⟩ m cc news hl hnews h1 h63 hbytes (Nat.le_refl _)
    obtain ⟨g, c', rfl, hge⟩ := form ho
    exact ⟨_, _, w', hr, sepOne (fun x hx => .inr (by have h5 : g = x := (by simpa [Value.ownBlock] using hx); omega)) hgr (Own.lower ho (Nat.zero_le _))⟩
  · injection hv with hA _ hcc
    subst hA hcc
    by_cases hroom : n + m ≤ c
    · have hfit : n * i.size + news.length ≤ cur.size := by rw [hl, hcs, hsize, ← Nat.add_mul]; exact Nat.mul_le_mul_right _ hroom
      have hr := run_append_room (P := P) w t ty e i ht hi g n c cur hg ⟨b, off, none⟩ m cc news (by rw [hsize]; exact hl) hnews h1 hroom hfit
      obtain ⟨v', w', hr2, ho, hgr, _⟩ := run_append_own (P := P) w 0 t ty e i z size bytes ht hi hz hsize hby hzs hsz _ n xs hown ⟨b, off, none⟩ m cc news hl hnews h1 h63 hbytes (Nat.zero_le _)
      rw [hr] at hr2
      injection hr2 with e1 e2
      subst e1 e2
      exact ⟨_, _, _, hr, sepOne (fun x hx => .inl hx) hgr ho⟩
    · obtain ⟨v', w', hr, ho, hgr⟩ := run_append_arg_grows (P := P) w t ty e i z size bytes ht hi hz hsize hby hzs hsz ⟨g, 0, none⟩ n c xs hown.1 (hown.cells (g := g) rfl) ⟨b, off, none⟩ m cc news hl hnews (by omega) h63 hbytes
      obtain ⟨g', c', rfl, hge⟩ := form ho
      exact ⟨_, _, w', hr, sepOne (fun x hx => .inr (by have h5 : g' = x := (by simpa [Value.ownBlock] using hx); omega)) ⟨hgr.os, hgr.tape, hgr.output, hgr.size, fun k hk _ => hgr.block k hk (by simp)⟩ (Own.lower ho (Nat.zero_le _))⟩

theorem wpList_append_sep {P : Program} {w : World} {ops : Array Oper} {rest : List Oper} {o : Oper} {a : Act} {Q : Exit → Act → World → Prop} (hgd : o.guard = none) (s x : Operand) (t : TypeId)
    (ho : o.op = .call { callee := .builtin .append, args := #[s, x], argTypes := #[t, t] })
    (e : TypeId) (i : TypeInfo) (z : Value) (size bytes : Nat) (ht : P.underlying t = some (.slice e)) (hi : P.info? e = some i) (hz : i.zero = some z)
    (hsize : i.size = size) (hby : i.bytes = bytes) (hzs : z.cells.size = size) (hsz : 0 < size)
    (A : Option Addr) (n c : Nat) (xs : List Value) (hs : a.eval s = .slice A n c) (hown : w.ownsRow 0 e size (.slice A n c) n xs)
    (sp : Addr) (m cc : Nat) (news : List Value) (hx : a.eval x = .slice (some sp) m cc) (hl : news.length = m * size) (hrow : Row w (some sp) news) (hne : 0 < news.length) (h1 : ∀ u ∈ news, u.oneCell' = true)
    (h63 : n + m ≤ maxLen) (hbytes : (n + m) * bytes ≤ 140737488355328)
    (h : ∀ A' c' w', Sep (fps [.row e size (.slice A n c) n xs]) w w' [.row e size (.slice A' (n + m) c') (n + m) (xs ++ news)] → wpList P ops Q rest (a.put o.dst (.slice A' (n + m) c')) w') : wpList P ops Q (o :: rest) a w := by
  refine wpList_plain hgd fun K hK => ?_
  obtain ⟨A', c', w', hrun, r1⟩ := run_append_sep (P := P) (w := w) t o.type e i z size bytes ht hi hz hsize hby hzs hsz A n c xs hown sp m cc news hl hrow hne h1 h63 hbytes
  unfold Oper.wp
  simp [execOp, ho, resolve, invoke, builtin, hs, hx, hrun, Result.andThen]
  exact hK _ _ (h A' c' w' r1)

theorem step_append_sep {P : Program} {ops : Array Oper} {o : Oper} {a : Act} {w : World} {K : Act → World → Prop} {Q : Exit → Act → World → Prop} {E : Prop} (hgd : o.guard = none) (s x : Operand) (t : TypeId)
    (ho : o.op = .call { callee := .builtin .append, args := #[s, x], argTypes := #[t, t] })
    (e : TypeId) (i : TypeInfo) (z : Value) (size bytes : Nat) (ht : P.underlying t = some (.slice e)) (hi : P.info? e = some i) (hz : i.zero = some z)
    (hsize : i.size = size) (hby : i.bytes = bytes) (hzs : z.cells.size = size) (hsz : 0 < size)
    (A : Option Addr) (n c : Nat) (xs : List Value) (hs : a.eval s = .slice A n c) (hown : w.ownsRow 0 e size (.slice A n c) n xs)
    (sp : Addr) (m cc : Nat) (news : List Value) (hx : a.eval x = .slice (some sp) m cc) (hl : news.length = m * size) (hrow : Row w (some sp) news) (hne : 0 < news.length) (h1 : ∀ u ∈ news, u.oneCell' = true)
    (h63 : n + m ≤ maxLen) (hbytes : (n + m) * bytes ≤ 140737488355328)
    (h : ∀ A' c' w', Sep (fps [.row e size (.slice A n c) n xs]) w w' [.row e size (.slice A' (n + m) c') (n + m) (xs ++ news)] → K (a.put o.dst (.slice A' (n + m) c')) w') :
    if Region.wanted o (yielded ops a.tmps) = true then Oper.wp P o a w K Q else E := by
  have hw : Region.wanted o (yielded ops a.tmps) = true := by simp [Region.wanted, hgd]
  rw [if_pos hw]
  obtain ⟨A', c', w', hrun, r1⟩ := run_append_sep (P := P) (w := w) t o.type e i z size bytes ht hi hz hsize hby hzs hsz A n c xs hown sp m cc news hl hrow hne h1 h63 hbytes
  unfold Oper.wp
  simp [execOp, ho, resolve, invoke, builtin, hs, hx, hrun, Result.andThen]
  exact h A' c' w' r1
end Go.Proofs.Ytgncjcnobojgbaa
