/- The program's line behind a pointer: Pop, container/heap's Pop over it, next. The list of places no longer than a million. -/
import Derived.Test.YtfkdfkoigojciaaGreatDoorQJ35
import Derived.Test.YtfkdfkoigojciaaGreatDoorQJ04
import Derived.ArgAppend

namespace Go.Proofs.YtfkdfkoigojciaaGreatDoor
open Go.RowKit
set_option linter.unusedVariables false
/-- All but the last one of rs are those of qs0, a heap but for number i; the last one is x. -/
def DnR (qs0 : List P3) (x : P3) (i : Nat) (rs : List P3) : Prop := ∃ qs : List P3, rs = qs ++ [x] ∧ qs.Perm qs0 ∧ HeapDn qs i
theorem at3_app {qs : List P3} {x : P3} {k : Nat} (h : k < qs.length) : at3 (qs ++ [x]) k = at3 qs k := by
 unfold at3; rw [getD3 (by simp; omega), getD3 h, List.getElem_append_left h]
theorem DnR.len {qs0 : List P3} {x : P3} {i : Nat} {rs : List P3} (h : DnR qs0 x i rs) : rs.length = qs0.length + 1 := by
 obtain ⟨qs, rfl, hp, _⟩ := h
 simp [hp.length_eq]
theorem DnR.done {qs0 : List P3} {x : P3} {i : Nat} {rs : List P3} (h : DnR qs0 x i rs) (hi : ∀ k, 0 < k → k < qs0.length → par k = i → leP (at3 rs i) (at3 rs k)) : ∃ qs, rs = qs ++ [x] ∧ qs.Perm qs0 ∧ HeapL qs := by
 obtain ⟨qs, rfl, hp, hd⟩ := h
 refine ⟨qs, rfl, hp, hd.done fun k h0 hk hk2 => ?_⟩
 have h1 := hi k h0 (by rw [← hp.length_eq]; exact hk) hk2
 have := par_lt h0
 rwa [at3_app hk, at3_app (by omega)] at h1
theorem DnR.swap {qs0 : List P3} {x : P3} {i j : Nat} {rs : List P3} (h : DnR qs0 x i rs) (h0 : 0 < j) (hj : j < qs0.length) (hp : par j = i) (ha : aheadP (at3 rs j) (at3 rs i) = true)
 (hm : ∀ k, 0 < k → k < qs0.length → par k = i → leP (at3 rs j) (at3 rs k)) : DnR qs0 x j (swapL rs i j) := by
 obtain ⟨qs, rfl, hpm, hd⟩ := h
 have hl := hpm.length_eq
 have h1 := par_lt h0
 rw [at3_app (by omega), at3_app (by omega)] at ha
 refine ⟨swapL qs i j, swapL_append (by omega) (by omega) _, (swapL_perm (by omega) (by omega)).trans hpm, hd.swap h0 (by omega) hp ha fun k h0 hk hk2 => ?_⟩
 have h3 := hm k h0 (by omega) hk2
 rwa [at3_app (by omega), at3_app hk] at h3
theorem at3_get {rs : List P3} {k : Nat} (h : k < rs.length) : at3 rs k = rs[k] := getD3 h
theorem par_two {k i : Nat} (h0 : 0 < k) (h : par k = i) : k = 2 * i + 1 ∨ k = 2 * i + 2 := by unfold par at h; omega
set_option maxRecDepth 100000 in
set_option maxHeartbeats 2000000 in
theorem hdown_any (qs0 : List P3) (x : P3) (rs : List P3) (lb : Nat) (A : Option Addr) (c n : Nat) (hn : n = qs0.length) (hl : rs.length ≤ 1048576) (w : World) (hh : DnR qs0 x 0 rs) (h : LineIn w lb A c rs) :
 Calls Tryz.prog 197 #[lineV lb, .int .i64 0, .int .i64 n] w fun r w' => (∃ v, r = .returned v) ∧ ∃ qs : List P3, qs.Perm qs0 ∧ HeapL qs ∧ Sep (fps (lineL lb A c rs)) w w' (lineL lb A c (qs ++ [x])) := by
 unfold lineV
 have hnl : n < rs.length := by rw [hh.len]; omega
 have H := hide (⟨hh, h, hn⟩ : _ ∧ _ ∧ _)
 clear hh h hn
 go_enter Tryz.func197, Tryz.ntmps197
 go_wp2_with fail
 go_loopw [7] (fun i wr => ∃ (i' : Nat) (ss : List P3), i = .int .i64 i' ∧ i' ≤ n ∧ Hid (n = qs0.length ∧ DnR qs0 x i' ss) ∧ Sep (fps (lineL lb A c rs)) w wr (lineL lb A c ss)) (fun i _ => (n - (intOf i).toNat : Nat))
 case atStart => exact ⟨0, rs, rfl, Nat.zero_le _, hide ⟨H.out.2.2, H.out.1⟩, H.out.2.1⟩
 case round =>
  have hnm : n < 1048576 := by omega
  clear H hnl
  obtain ⟨i, ss, rfl, hi, HP, M⟩ := hrel
  have hsl : n < ss.length := by rw [HP.out.2.len, HP.out.1]; omega
  have hsm : ss.length ≤ 1048576 := by have h1 := HP.out.2.len; have h2 := HP.out.1; omega
  obtain ⟨j1, hj1⟩ : ∃ j1, j1 = 2 * i + 1 := ⟨_, rfl⟩
  have e0 : ¬ 2 * (i : Int) + 1 < 0 := by omega
  have qL : wr.cell? ⟨lb, 0, none⟩ = some (.slice A ss.length c) := M.cell 0 0 rfl
  by_cases h1 : n ≤ j1
  ·have h1z : (n : Int) ≤ 2 * (i : Int) + 1 := by omega
   go_wp2_with fail
   go_ret
   obtain ⟨qs, rfl, hp, hq⟩ := HP.out.2.done (fun k h0 hk hk2 => by have := par_two h0 hk2; have := HP.out.1; omega)
   exact ⟨⟨_, rfl⟩, qs, hp, hq, M⟩
  ·have h1z : ¬ (n : Int) ≤ 2 * (i : Int) + 1 := by omega
   obtain ⟨j2, hj2⟩ : ∃ j2, j2 = j1 + 1 := ⟨_, rfl⟩
   by_cases h2 : j2 < n
   ·have h2z : 2 * (i : Int) + 1 + 1 < (n : Int) := by omega
    go_wp2_with fail
    rw [inv_less _ lb A ss.length c _ qL]
    go_wp2_with fail
    rw [show 2 * (i : Int) + 1 + 1 = (j2 : Int) by omega, show 2 * (i : Int) + 1 = (j1 : Int) by omega]
    apply Calls.mono
    focus with_reducible exact (less_any ss A c j2 j1 (by omega) (by omega) hsm _ (M.rowS 1 rfl))
    rintro r W1 ⟨rfl, g1⟩
    replace M := M.call g1
    clear qL g1
    have qL : W1.cell? ⟨lb, 0, none⟩ = some (.slice A ss.length c) := M.cell 0 0 rfl
    have hb0 : aheadP ss[j2] ss[j1] = aheadP (at3 ss j2) (at3 ss j1) := by rw [at3_get (by omega), at3_get (by omega)]
    rw [hb0]
    clear hb0
    obtain ⟨b1, hb1⟩ : ∃ b1, b1 = aheadP (at3 ss j2) (at3 ss j1) := ⟨_, rfl⟩
    rw [← hb1]
    have HB1 := hide hb1
    clear hb1
    cases b1
    ·have HM : Hid (∀ k, 0 < k → k < qs0.length → par k = i → leP (at3 ss j1) (at3 ss k)) := hide (fun k h0 hk hk2 => by
      rcases par_two h0 hk2 with h3 | h3
      ·rw [show k = j1 by omega]; exact leP.refl _
      ·rw [show k = j2 by omega]; exact HB1.out.symm)
     clear HB1
     go_wp2_with fail
     rw [inv_less _ lb A ss.length c _ qL]
     go_wp2_with fail
     (try rw [show 2 * (i : Int) + 1 + 1 = (j2 : Int) by omega])
     (try rw [show 2 * (i : Int) + 1 = (j1 : Int) by omega])
     apply Calls.mono
     focus with_reducible exact (less_any ss A c j1 i (by omega) (by omega) hsm _ (M.rowS 1 rfl))
     rintro r W2 ⟨rfl, g1⟩
     replace M := M.call g1
     clear qL g1
     have qL : W2.cell? ⟨lb, 0, none⟩ = some (.slice A ss.length c) := M.cell 0 0 rfl
     have hb0 : aheadP ss[j1] ss[i] = aheadP (at3 ss j1) (at3 ss i) := by rw [at3_get (by omega), at3_get (by omega)]
     rw [hb0]
     clear hb0
     obtain ⟨b2, hb2⟩ : ∃ b2, b2 = aheadP (at3 ss j1) (at3 ss i) := ⟨_, rfl⟩
     rw [← hb2]
     have HB2 := hide hb2
     clear hb2
     cases b2
     ·go_wp2_with fail
      go_ret
      obtain ⟨qs, rfl, hp, hq⟩ := HP.out.2.done (fun k h0 hk hk2 => leP.trans HB2.out.symm (HM.out k h0 hk hk2))
      exact ⟨⟨_, rfl⟩, qs, hp, hq, M⟩
     ·go_wp2_with fail
      rw [inv_swap _ lb A ss.length c _ qL]
      go_wp2_with fail
      (try rw [show 2 * (i : Int) + 1 + 1 = (j2 : Int) by omega])
      (try rw [show 2 * (i : Int) + 1 = (j1 : Int) by omega])
      have hR : (rP ss.length A c ss).here W2 := M.rowAt 1 rfl
      apply Calls.mono
      focus with_reducible exact (swap_any ss A c i j1 (by omega) (by omega) hsm _ hR)
      clear hR
      rintro r W3 ⟨⟨v, rfl⟩, g2⟩
      replace M := M.swapped g2
      clear qL
      go_wp2_with fail
      go_roundw
      ·exact ⟨j1, swapL ss i j1, by go_num, by omega, hide ⟨HP.out.1, HP.out.2.swap (by omega) (by have := HP.out.1; omega) (by unfold par; omega) HB2.out.symm HM.out⟩, M⟩
      ·simp [intOf]; omega
    ·have HM : Hid (∀ k, 0 < k → k < qs0.length → par k = i → leP (at3 ss j2) (at3 ss k)) := hide (fun k h0 hk hk2 => by
      rcases par_two h0 hk2 with h3 | h3
      ·rw [show k = j1 by omega]; exact leP.of_ahead HB1.out.symm
      ·rw [show k = j2 by omega]; exact leP.refl _)
     clear HB1
     go_wp2_with fail
     rw [inv_less _ lb A ss.length c _ qL]
     go_wp2_with fail
     (try rw [show 2 * (i : Int) + 1 + 1 = (j2 : Int) by omega])
     (try rw [show 2 * (i : Int) + 1 = (j1 : Int) by omega])
     apply Calls.mono
     focus with_reducible exact (less_any ss A c j2 i (by omega) (by omega) hsm _ (M.rowS 1 rfl))
     rintro r W2 ⟨rfl, g1⟩
     replace M := M.call g1
     clear qL g1
     have qL : W2.cell? ⟨lb, 0, none⟩ = some (.slice A ss.length c) := M.cell 0 0 rfl
     have hb0 : aheadP ss[j2] ss[i] = aheadP (at3 ss j2) (at3 ss i) := by rw [at3_get (by omega), at3_get (by omega)]
     rw [hb0]
     clear hb0
     obtain ⟨b2, hb2⟩ : ∃ b2, b2 = aheadP (at3 ss j2) (at3 ss i) := ⟨_, rfl⟩
     rw [← hb2]
     have HB2 := hide hb2
     clear hb2
     cases b2
     ·go_wp2_with fail
      go_ret
      obtain ⟨qs, rfl, hp, hq⟩ := HP.out.2.done (fun k h0 hk hk2 => leP.trans HB2.out.symm (HM.out k h0 hk hk2))
      exact ⟨⟨_, rfl⟩, qs, hp, hq, M⟩
     ·go_wp2_with fail
      rw [inv_swap _ lb A ss.length c _ qL]
      go_wp2_with fail
      (try rw [show 2 * (i : Int) + 1 + 1 = (j2 : Int) by omega])
      (try rw [show 2 * (i : Int) + 1 = (j1 : Int) by omega])
      have hR : (rP ss.length A c ss).here W2 := M.rowAt 1 rfl
      apply Calls.mono
      focus with_reducible exact (swap_any ss A c i j2 (by omega) (by omega) hsm _ hR)
      clear hR
      rintro r W3 ⟨⟨v, rfl⟩, g2⟩
      replace M := M.swapped g2
      clear qL
      go_wp2_with fail
      go_roundw
      ·exact ⟨j2, swapL ss i j2, by go_num, by omega, hide ⟨HP.out.1, HP.out.2.swap (by omega) (by have := HP.out.1; omega) (by unfold par; omega) HB2.out.symm HM.out⟩, M⟩
      ·simp [intOf]; omega
   ·have h2z : ¬ 2 * (i : Int) + 1 + 1 < (n : Int) := by omega
    have HM : Hid (∀ k, 0 < k → k < qs0.length → par k = i → leP (at3 ss j1) (at3 ss k)) := hide (fun k h0 hk hk2 => by
     have := HP.out.1
     rcases par_two h0 hk2 with h3 | h3
     ·rw [show k = j1 by omega]; exact leP.refl _
     ·omega)
    go_wp2_with fail
    rw [inv_less _ lb A ss.length c _ qL]
    go_wp2_with fail
    (try rw [show 2 * (i : Int) + 1 + 1 = (j2 : Int) by omega])
    (try rw [show 2 * (i : Int) + 1 = (j1 : Int) by omega])
    apply Calls.mono
    focus with_reducible exact (less_any ss A c j1 i (by omega) (by omega) hsm _ (M.rowS 1 rfl))
    rintro r W2 ⟨rfl, g1⟩
    replace M := M.call g1
    clear qL g1
    have qL : W2.cell? ⟨lb, 0, none⟩ = some (.slice A ss.length c) := M.cell 0 0 rfl
    have hb0 : aheadP ss[j1] ss[i] = aheadP (at3 ss j1) (at3 ss i) := by rw [at3_get (by omega), at3_get (by omega)]
    rw [hb0]
    clear hb0
    obtain ⟨b2, hb2⟩ : ∃ b2, b2 = aheadP (at3 ss j1) (at3 ss i) := ⟨_, rfl⟩
    rw [← hb2]
    have HB2 := hide hb2
    clear hb2
    cases b2
    ·go_wp2_with fail
     go_ret
     obtain ⟨qs, rfl, hp, hq⟩ := HP.out.2.done (fun k h0 hk hk2 => leP.trans HB2.out.symm (HM.out k h0 hk hk2))
     exact ⟨⟨_, rfl⟩, qs, hp, hq, M⟩
    ·go_wp2_with fail
     rw [inv_swap _ lb A ss.length c _ qL]
     go_wp2_with fail
     (try rw [show 2 * (i : Int) + 1 + 1 = (j2 : Int) by omega])
     (try rw [show 2 * (i : Int) + 1 = (j1 : Int) by omega])
     have hR : (rP ss.length A c ss).here W2 := M.rowAt 1 rfl
     apply Calls.mono
     focus with_reducible exact (swap_any ss A c i j1 (by omega) (by omega) hsm _ hR)
     clear hR
     rintro r W3 ⟨⟨v, rfl⟩, g2⟩
     replace M := M.swapped g2
     clear qL
     go_wp2_with fail
     go_roundw
     ·exact ⟨j1, swapL ss i j1, by go_num, by omega, hide ⟨HP.out.1, HP.out.2.swap (by omega) (by have := HP.out.1; omega) (by unfold par; omega) HB2.out.symm HM.out⟩, M⟩
     ·simp [intOf]; omega
/-- A block is taken as a row. -/
theorem sepOneB {w w' : World} {g : Nat} {t e : TypeId} {cs : Array Value} {size n : Nat} {v : Value} {xs : List Value} (hv : ∀ k, v.ownBlock = some k → some g = some k) (hg : w.grownBy w' (some g)) (h : w'.ownsRow 0 e size v n xs) : Sep (fps [.blk g t cs]) w w' [.row e size v n xs] :=
 ⟨hg.os, hg.tape, hg.output, hg.size, fun b hlt hn => hg.block b hlt (fun e' => hn (mem_fps.2 ⟨_, List.mem_singleton_self _, e'.symm⟩)), fun x hx => by rw [List.mem_singleton.1 hx]; exact h, fun x hx k hgx => by
  rw [List.mem_singleton.1 hx] at hgx
  exact .inl (mem_fps.2 ⟨_, List.mem_singleton_self _, hv k hgx⟩), List.pairwise_singleton _ _⟩
theorem run_append_sep {P : Program} {w : World} (t ty e : TypeId) (i : TypeInfo) (z : Value) (size bytes : Nat) (ht : P.underlying t = some (.slice e)) (hi : P.info? e = some i) (hz : i.zero = some z)
 (hsize : i.size = size) (hby : i.bytes = bytes) (hzs : z.cells.size = size) (hsz : 0 < size) (A : Option Addr) (n c : Nat) (xs : List Value) (hown : w.ownsRow 0 e size (.slice A n c) n xs)
 (sp : Addr) (m cc : Nat) (news : List Value) (hl : news.length = m * size) (hrow : Row w (some sp) news) (hne : 0 < news.length) (h1 : ∀ u ∈ news, u.oneCell' = true)
 (h63 : n + m ≤ maxLen) (hbytes : (n + m) * bytes ≤ 140737488355328) :
 ∃ A' c' w', (Builtin.append_ #[t, t] ty #[.slice A n c, .slice (some sp) m cc]).run P w = .ok (.slice A' (n + m) c') w' ∧ Sep (fps [.row e size (.slice A n c) n xs]) w w' [.row e size (.slice A' (n + m) c') (n + m) (xs ++ news)] := by
 obtain ⟨b, off, hsp, hc⟩ := hrow hne
 injection hsp with hsp
 subst hsp
 have hnews : ∀ j u, news[j]? = some u → w.cell? ((⟨b, off, none⟩ : Addr).add j) = some u := fun j u hu => by
  rw [show (⟨b, off, none⟩ : Addr).add j = ⟨b, off + j, none⟩ from by unfold Addr.add; split <;> simp_all]
  exact hc j u hu
 have hm : 0 < m := by
  rcases Nat.eq_zero_or_pos m with h | h
  ·subst h; rw [Nat.zero_mul] at hl; omega
  ·exact h
 -- the result's make
 have form : ∀ {base : Nat} {v' : Value} {w' : World}, w'.ownsRow base e size v' (n + m) (xs ++ news) → ∃ g c', v' = .slice (some ⟨g, 0, none⟩) (n + m) c' ∧ base ≤ g := fun h => by
  rcases h.2 with ⟨_, h0⟩ | ⟨g, cap, cur, hv, hb, _⟩
  ·omega
  ·exact ⟨g, cap, hv, hb⟩
 rcases hown.2 with ⟨hv, hn0⟩ | ⟨g, cap, cur, hv, hbg, hg, hnc, hcm, hcs, htake⟩
 ·injection hv with hA _ hcc
  have hx : xs = [] := List.eq_nil_of_length_eq_zero (by rw [hown.1, hn0]; simp)
  subst hA hcc hn0 hx
  obtain ⟨v', w', hr, ho, hgr, _⟩ := run_append_own (P := P) w w.heap.size t ty e i z size bytes ht hi hz hsize hby hzs hsz _ 0 [] (World.ownsRow_nil w _ e size) ⟨b, off, none⟩ m cc news hl hnews h1 h63 hbytes (Nat.le_refl _)
  obtain ⟨g, c', rfl, hge⟩ := form ho
  exact ⟨_, _, w', hr, sepOne (fun x hx => .inr (by have h5 : g = x := (by simpa [Value.ownBlock] using hx); omega)) hgr (Own.lower ho (Nat.zero_le _))⟩
 ·injection hv with hA _ hcc
  subst hA hcc
  by_cases hroom : n + m ≤ c
  ·have hfit : n * i.size + news.length ≤ cur.size := by rw [hl, hcs, hsize, ← Nat.add_mul]; exact Nat.mul_le_mul_right _ hroom
   have hr := run_append_room (P := P) w t ty e i ht hi g n c cur hg ⟨b, off, none⟩ m cc news (by rw [hsize]; exact hl) hnews h1 hroom hfit
   obtain ⟨v', w', hr2, ho, hgr, _⟩ := run_append_own (P := P) w 0 t ty e i z size bytes ht hi hz hsize hby hzs hsz _ n xs hown ⟨b, off, none⟩ m cc news hl hnews h1 h63 hbytes (Nat.zero_le _)
   rw [hr] at hr2
   injection hr2 with e1 e2
   subst e1 e2
   exact ⟨_, _, _, hr, sepOne (fun x hx => .inl hx) hgr ho⟩
  ·obtain ⟨v', w', hr, ho, hgr⟩ := run_append_arg_grows (P := P) w t ty e i z size bytes ht hi hz hsize hby hzs hsz ⟨g, 0, none⟩ n c xs hown.1 (hown.cells (g := g) rfl) ⟨b, off, none⟩ m cc news hl hnews (by omega) h63 hbytes
   obtain ⟨g', c', rfl, hge⟩ := form ho
   exact ⟨_, _, w', hr, sepOne (fun x hx => .inr (by have h5 : g' = x := (by simpa [Value.ownBlock] using hx); omega)) ⟨hgr.os, hgr.tape, hgr.output, hgr.size, fun k hk _ => hgr.block k hk (by simp)⟩ (Own.lower ho (Nat.zero_le _))⟩
theorem step_append_sep {P : Program} {ops : Array Oper} {o : Oper} {a : Act} {w : World} {K : Act → World → Prop} {Q : Exit → Act → World → Prop} {E : Prop} (hgd : o.guard = none) (s x : Operand) (t : TypeId)
 (ho : o.op = .call { callee := .builtin .append, args := #[s, x], argTypes := #[t, t] })
 (e : TypeId) (i : TypeInfo) (z : Value) (size bytes : Nat) (ht : P.underlying t = some (.slice e)) (hi : P.info? e = some i) (hz : i.zero = some z)
 (hsize : i.size = size) (hby : i.bytes = bytes) (hzs : z.cells.size = size) (hsz : 0 < size)
 (A : Option Addr) (n c : Nat) (xs : List Value) (hs : a.eval s = .slice A n c) (hown : w.ownsRow 0 e size (.slice A n c) n xs)
 (sp : Addr) (m cc : Nat) (news : List Value) (hx : a.eval x = .slice (some sp) m cc) (hl : news.length = m * size) (hrow : Row w (some sp) news) (hne : 0 < news.length) (h1 : ∀ u ∈ news, u.oneCell' = true)
 (h63 : n + m ≤ maxLen) (hbytes : (n + m) * bytes ≤ 140737488355328)
 (h : ∀ A' c' w', Sep (fps [.row e size (.slice A n c) n xs]) w w' [.row e size (.slice A' (n + m) c') (n + m) (xs ++ news)] → K (a.put o.dst (.slice A' (n + m) c')) w') :
 if Region.wanted o (yielded ops a.tmps) = true then Oper.wp P o a w K Q else E := by
 have hw : Region.wanted o (yielded ops a.tmps) = true := by simp [Region.wanted, hgd]
 rw [if_pos hw]
 obtain ⟨A', c', w', hrun, r1⟩ := run_append_sep (P := P) (w := w) t o.type e i z size bytes ht hi hz hsize hby hzs hsz A n c xs hown sp m cc news hl hrow hne h1 h63 hbytes
 unfold Oper.wp
 simp [execOp, ho, resolve, invoke, builtin, hs, hx, hrun, Result.andThen]
 exact h A' c' w' r1
set_option maxRecDepth 100000
theorem rowLit3 (w : World) (t : TypeId) (v0 v1 v2 : Value) : Row (w.alloc (.cells #[v0, v1, v2] t)) (some ⟨w.heap.size, 0, none⟩) [v0, v1, v2] :=
 Row.of_own (World.ownsRow_lit (base := 0) (e := t) (size := 3) w #[v0, v1, v2] 1 (Nat.zero_le _) (by simp [maxLen]) (by simp))
theorem pcells_snoc (ps : List P3) (x : P3) : pcells ps ++ x.cs = pcells (ps ++ [x]) := by simp [pcells]
theorem info_parts3 : ∃ i : TypeInfo, Tryz.prog.info? 152 = some i ∧ i.zero = some (.agg #[.int .i64 0, .int .i64 0, .int .i64 0]) ∧ i.size = 3 ∧ i.bytes = 24 := by
 have h := infoPlace
 cases hi : Tryz.prog.info? 152 with
 | none => rw [hi] at h; cases h
 | some i =>
  rw [hi] at h
  simp only [Option.map_some, Option.some.injEq, Prod.mk.injEq] at h
  exact ⟨i, rfl, h.1, h.2.1, h.2.2⟩
theorem assert_place (v : Value) (w : World) : Sem.run Tryz.prog (Instr.typeAssert (.iface 152 v) 20 152 false) w = .ok v w := by kernel_rfl
/-- The row grows by a place, and the variable has it. -/
theorem Sep.pushed {S : List Nat} {w W W' : World} {lb : Nat} {A A' : Option Addr} {c c' n : Nat} {ps : List P3} {x : P3} (hn : n = ps.length) (M : Sep S w W (lineL lb A c ps)) (k : Sep (fps [rP ps.length A c ps]) W W' [rP (n + 1) A' c' (ps ++ [x])]) : Sep S w (W'.setCell ⟨lb, 0, none⟩ (.slice A' (n + 1) c')) (lineL lb A' c' (ps ++ [x])) := by
 subst hn
 have h := Sep.comp (ps := [rP ps.length A c ps]) (rs := [.blk lb 149 #[.slice A ps.length c]]) (M.front 1 rfl) k
 have h2 := (h.front 1 rfl).set 0 rfl 0 (.slice A' (ps.length + 1) c')
 have e : (ps ++ [x]).length = ps.length + 1 := by simp
 unfold lineL
 rw [e]
 exact h2
set_option maxHeartbeats 1000000 in
theorem push_any (ps : List P3) (lb : Nat) (A : Option Addr) (c : Nat) (l t i : Int) (hl : ps.length < 1048576) (w : World) (h : LineIn w lb A c ps) :
 Calls Tryz.prog 224 #[.pointer (some ⟨lb, 0, none⟩), .iface 152 (.agg #[.int .i64 l, .int .i64 t, .int .i64 i])] w fun r w' => (∃ v, r = .returned v) ∧ ∃ A' c', Sep (fps (lineL lb A c ps)) w w' (lineL lb A' c' (ps ++ [⟨l, t, i⟩])) := by
 obtain ⟨i0, hi, hz0, hz1, hz2⟩ := info_parts3
 have qL : w.cell? ⟨lb, 0, none⟩ = some (.slice A ps.length c) := Sep.cell h 0 0 rfl
 have fL : w.frozen? ⟨lb, 0, none⟩ = false := Sep.fz h 0 0 rfl
 have hta := fun w => assert_place (.agg #[.int .i64 l, .int .i64 t, .int .i64 i]) w
 have H := hide h
 clear h
 go_enter Tryz.func224, Tryz.ntmps224
 go_wp2_with fail
 refine wp_region_T (S := (fun w' => w'.cell? ⟨lb, 0, none⟩ = some (.slice A ps.length c))) (ks := [9]) (by kernel_rfl) qL (fun hHeld => ?_)
 refine tkY 0 ?v0 rfl ?hy0 (fun _ => hHeld) ?_
 case hy0 => (intro w; go_simp; all_goals with_reducible rfl)
 try simp only [Act.put, List.setIfInBounds_toArray, List.set_cons_zero, List.set_cons_succ]
 refine tkY 1 ?v1 rfl ?hy1 (fun _ => hHeld) ?_
 case hy1 => (intro w; go_simp; all_goals with_reducible rfl)
 try simp only [Act.put, List.setIfInBounds_toArray, List.set_cons_zero, List.set_cons_succ]
 refine tkY 2 ?v2 rfl ?hy2 (fun _ => hHeld) ?_
 case hy2 => (intro w; go_simp; all_goals with_reducible rfl)
 try simp only [Act.put, List.setIfInBounds_toArray, List.set_cons_zero, List.set_cons_succ]
 refine tkL 3 ?v3 rfl ?hy3 hHeld ?_
 case hy3 => (intro w hSw; (try dsimp only at hSw); go_split_ands; go_simp; all_goals with_reducible rfl)
 try simp only [Act.put, List.setIfInBounds_toArray, List.set_cons_zero, List.set_cons_succ]
 refine tkY 4 ?v4 rfl ?hy4 (fun _ => hHeld) ?_
 case hy4 => (intro w; go_simp; all_goals with_reducible rfl)
 try simp only [Act.put, List.setIfInBounds_toArray, List.set_cons_zero, List.set_cons_succ]
 refine tkY 5 ?v5 rfl ?hy5 (fun _ => hHeld) ?_
 case hy5 => (intro w; go_simp; all_goals with_reducible rfl)
 try simp only [Act.put, List.setIfInBounds_toArray, List.set_cons_zero, List.set_cons_succ]
 refine wpAnyT_callL (i := 6) rfl (by kernel_rfl) (fun K hK => ?_)
 go_simp
 refine hK.out _ _ ?_ (fun hHeld => ?_)
 ·exact (Sep.cell (Sep.allocN H.out _ _) 1 0 rfl)
 clear hK K
 try simp only [Act.put, List.setIfInBounds_toArray, List.set_cons_zero, List.set_cons_succ]
 have M1 : Sep (fps (lineL lb A c ps)) w (w.alloc (.cells #[.int .i64 l, .int .i64 t, .int .i64 i] 152)).drew (.blk w.heap.size 152 #[.int .i64 l, .int .i64 t, .int .i64 i] :: lineL lb A c ps) := Sep.drew (Sep.allocN H.out 152 #[.int .i64 l, .int .i64 t, .int .i64 i])
 have hR1 : Row (w.alloc (.cells #[.int .i64 l, .int .i64 t, .int .i64 i] 152)).drew (some ⟨w.heap.size, 0, none⟩) [.int .i64 l, .int .i64 t, .int .i64 i] := rowLit3 w 152 _ _ _
 generalize (w.alloc (.cells #[.int .i64 l, .int .i64 t, .int .i64 i] 152)).drew = W1 at M1 hR1 hHeld ⊢
 have hO : W1.ownsRow 0 152 3 (.slice A ps.length c) ps.length (pcells ps) := Sep.rowAt M1 2 rfl
 refine wpAnyT_callL (i := 7) rfl (by kernel_rfl) (fun K hK => ?_)
 refine step_append_sep rfl (.tmp 7) (.tmp 10) 149 rfl 152 i0 (.agg #[.int .i64 0, .int .i64 0, .int .i64 0]) 3 24 Tryz.underlying149 hi hz0 hz1 hz2 rfl (by decide) A ps.length c (pcells ps) rfl hO ⟨w.heap.size, 0, none⟩ 1 1 [.int .i64 l, .int .i64 t, .int .i64 i] rfl rfl hR1 (by simp) (by simp [Value.oneCell']) (by unfold maxLen; omega) (by omega) ?_
 intro A' c' W2 k
 have k' : Sep (fps [rP ps.length A c ps]) W1 W2 [rP (ps.length + 1) A' c' (ps ++ [⟨l, t, i⟩])] := by unfold rP; rw [← pcells_snoc]; exact k
 have M2 := Sep.comp (ps := [rP ps.length A c ps]) (rs := [.blk lb 149 #[.slice A ps.length c]]) ((Sep.tail M1).front 1 rfl) k'
 have fL2 : W2.frozen? ⟨lb, 0, none⟩ = false := Sep.fz M2 1 0 rfl
 have tL2 := Sep.lt M2 1 rfl
 refine hK.out _ _ ?_ (fun hHeld => ?_)
 ·exact Sep.cell M2 1 0 rfl
 clear hK K
 try simp only [Act.put, List.setIfInBounds_toArray, List.set_cons_zero, List.set_cons_succ]
 refine tkY 8 ?v8 rfl ?hy8 (fun _ => hHeld) ?_
 case hy8 => (intro w; go_simp; all_goals with_reducible rfl)
 try simp only [Act.put, List.setIfInBounds_toArray, List.set_cons_zero, List.set_cons_succ]
 refine wpAnyT_oneL (i := 9) rfl (by kernel_rfl) (by kernel_rfl) (fun K hK => ?_)
 go_simp
 refine hK.out _ _ ?_
 clear hK K
 try simp only [Act.put, List.setIfInBounds_toArray, List.set_cons_zero, List.set_cons_succ]
 refine wpAnyT_done (by kernel_rfl) ?_ _
 go_end0
 refine ⟨⟨_, rfl⟩, A', c', ?_⟩
 exact Sep.pushed rfl (Sep.tail M1) k'
set_option maxHeartbeats 4000000 in
theorem hpush_any (ps : List P3) (lb : Nat) (A : Option Addr) (c : Nat) (l t i : Int) (hl : ps.length < 1048576) (w : World) (hh : HeapL ps) (h : LineIn w lb A c ps) :
 Calls Tryz.prog 143 #[lineV lb, .iface 152 (.agg #[.int .i64 l, .int .i64 t, .int .i64 i])] w fun r w' => (∃ v, r = .returned v) ∧ ∃ A' c' qs, qs.Perm (ps ++ [⟨l, t, i⟩]) ∧ HeapL qs ∧ Sep (fps (lineL lb A c ps)) w w' (lineL lb A' c' qs) := by
 unfold lineV
 have H := hide (⟨h, hh⟩ : _ ∧ _)
 clear h hh
 go_enter Tryz.func143, Tryz.ntmps143
 go_wp2_with fail
 go_call (push_any ps lb A c l t i hl _ H.out.1) as r W1 ⟨⟨v, rfl⟩, A', c', M⟩
 have qL : W1.cell? ⟨lb, 0, none⟩ = some (.slice A' (ps ++ [(⟨l, t, i⟩ : P3)]).length c') := Sep.cell M 0 0 rfl
 obtain ⟨qs, hqs⟩ : ∃ qs, qs = ps ++ [(⟨l, t, i⟩ : P3)] := ⟨_, rfl⟩
 rw [← hqs] at M qL
 have HQ := hide (⟨hqs, show HeapUp qs ps.length from by rw [hqs]; exact H.out.2.push _, show qs.length = ps.length + 1 from by rw [hqs]; simp⟩ : _ ∧ _ ∧ _)
 have hql : qs.length ≤ 1048576 := by have := HQ.out.2.2; omega
 clear hqs
 go_wp2_with fail
 rw [inv_len _ lb A' qs.length c' _ qL]
 go_wp2_with fail
 go_call (len_any A' qs.length c' _) as r W2 ⟨rfl, rfl⟩
 go_wp2_with fail
 rw [show (qs.length : Int) - 1 = (ps.length : Int) from by have := HQ.out.2.2; omega]
 have hU := hup_any qs lb A' c' ps.length (by have := HQ.out.2.2; omega) hql _ HQ.out.2.1 (LineIn.of (rs := []) M)
 unfold lineV at hU
 apply Calls.mono
 focus with_reducible exact hU
 rintro r W3 ⟨⟨v', rfl⟩, qs', hn', hp', hh', M'⟩
 go_wp2_with fail
 go_end0
 refine ⟨⟨_, rfl⟩, A', c', qs', by rw [← HQ.out.1]; exact hp', hh', ?_⟩
 have := Sep.comp (ps := lineL lb A' c' qs) (rs := []) M M'
 exact this
set_option maxRecDepth 100000
/-- The last place leaves the row. -/
theorem Sep.popped {S : List Nat} {w W W' : World} {lb g : Nat} {c n : Nat} {qs : List P3} {x : P3} (hn : n = qs.length) (M : Sep S w W (lineL lb (some ⟨g, 0, none⟩) c (qs ++ [x]))) (hb : Below W.heap.size W W') : Sep S w (W'.setCell ⟨lb, 0, none⟩ (.slice (some ⟨g, 0, none⟩) n c)) (lineL lb (some ⟨g, 0, none⟩) c qs) := by
 subst hn
 have M2 := M.call hb
 have h1 : W'.ownsRow 0 152 3 (.slice (some ⟨g, 0, none⟩) (qs ++ [x]).length c) (qs ++ [x]).length (pcells (qs ++ [x])) := M2.rowAt 1 rfl
 have h2 := Own.cut h1 (k := qs.length) (by simp)
 rw [pcells_take, List.take_left] at h2
 have k : Sep (fps [rP (qs ++ [x]).length (some ⟨g, 0, none⟩) c (qs ++ [x])]) W' W' [rP qs.length (some ⟨g, 0, none⟩) c qs] := sepOne (fun _ h => .inl h) (World.grownBy.refl _ _) h2
 have h3 := Sep.comp (ps := [rP (qs ++ [x]).length (some ⟨g, 0, none⟩) c (qs ++ [x])]) (rs := [.blk lb 149 #[.slice (some ⟨g, 0, none⟩) (qs ++ [x]).length c]]) (M2.front 1 rfl) k
 exact (h3.front 1 rfl).set 0 rfl 0 (.slice (some ⟨g, 0, none⟩) qs.length c)
set_option maxHeartbeats 1000000 in
theorem pop_any (qs : List P3) (x : P3) (lb : Nat) (A : Option Addr) (c : Nat) (hl : qs.length < 1048576) (w : World) (h : LineIn w lb A c (qs ++ [x])) :
 Calls Tryz.prog 223 #[.pointer (some ⟨lb, 0, none⟩)] w fun r w' => r = .returned (.iface 152 x.val) ∧ Sep (fps (lineL lb A c (qs ++ [x]))) w w' (lineL lb A c qs) := by
 obtain ⟨ps, hps⟩ : ∃ ps, ps = qs ++ [x] := ⟨_, rfl⟩
 rw [← hps] at h
 have hlen : ps.length = qs.length + 1 := by rw [hps]; simp
 have hR : (rP ps.length A c ps).here w := Sep.here h _ (by simp [lineL])
 obtain ⟨g, rfl, hgl, hfz⟩ := rP_form hR (by omega)
 obtain ⟨b, off, e, hb, z0, z1, z2⟩ := (Row.of_own hR).ps_at (k := qs.length) (by omega)
 injection e with e
 injection e with e1 e2
 subst e1 e2
 simp only [Nat.zero_add] at z0 z1 z2
 have hx : ps[qs.length] = x := by subst hps; simp
 rw [hx] at z0 z1 z2
 have qL : w.cell? ⟨lb, 0, none⟩ = some (.slice (some ⟨g, 0, none⟩) ps.length c) := Sep.cell h 0 0 rfl
 have fL : w.frozen? ⟨lb, 0, none⟩ = false := Sep.fz h 0 0 rfl
 have tL : lb < w.heap.size := Sep.lt h 0 rfl
 have ne : w.heap.size ≠ lb := by omega
 have ne2 : w.heap.size ≠ g := by omega
 have hcap : ps.length ≤ c := own_cap (show w.ownsRow 0 152 3 (.slice (some ⟨g, 0, none⟩) ps.length c) ps.length (pcells ps) from hR)
 have H := hide (⟨h, hps, hlen⟩ : _ ∧ _ ∧ _)
 rw [← hps]
 have hn : (ps.length : Int) - 1 = (qs.length : Int) := by omega
 have hn1 : (qs.length : Int) < (ps.length : Int) := by omega
 have hn0 : (0 : Int) ≤ (qs.length : Int) := by omega
 have hn2 : (qs.length : Int) ≤ (c : Int) := by omega
 have hn3 : qs.length ≤ c := by omega
 clear h hR hx hps hlen hfz hcap hb
 obtain ⟨l, t, i⟩ := x
 simp only at z0 z1 z2
 unfold P3.val
 generalize qs.length = n at *
 go_enter Tryz.func223, Tryz.ntmps223
 go_wp2_with fail
 go_ret
 rw [H.out.2.1]
 have M := H.out.1
 unfold LineIn at M
 rw [H.out.2.1] at M
 exact ⟨rfl, (Sep.allocN (Sep.popped (by have h1 := H.out.2.2; have h2 := congrArg List.length H.out.2.1; simp at h2; omega) M (Below.refl _ _)) _ _).tail⟩
theorem field_place (l t i : Int) (w : World) : Sem.run Tryz.prog (Instr.field 152 (.agg #[.int .i64 l, .int .i64 t, .int .i64 i]) 2) w = .ok (.int .i64 i) w := by kernel_rfl
/-- The first one and the last one change places: all but the last one are a heap but for the root. -/
theorem pop_split {ps : List P3} (hh : HeapL ps) (hne : 0 < ps.length) : ∃ qs, swapL ps 0 (ps.length - 1) = qs ++ [at3 ps 0] ∧ (at3 ps 0 :: qs).Perm ps ∧ HeapDn qs 0 ∧ qs.length + 1 = ps.length := by
 rcases List.eq_nil_or_concat ps with rfl | ⟨qs, y, rfl⟩
 ·simp at hne
 ·simp only [List.concat_eq_append] at hh hne ⊢
  rw [List.length_append, List.length_singleton, Nat.add_sub_cancel]
  rcases Nat.eq_zero_or_pos qs.length with h0 | h0
  ·obtain rfl := List.eq_nil_of_length_eq_zero h0
   exact ⟨[], swapL_self (by simp), List.Perm.refl _, ⟨fun k h1 h2 => by simp at h2, fun h1 => by omega⟩, rfl⟩
  ·refine ⟨qs.set 0 y, ?_, ?_, HeapL.popped hh h0, by simp⟩
   ·rw [swap_last h0, at3_app h0]
   ·rw [at3_app h0]; exact popped_perm h0
set_option maxHeartbeats 1000000 in
theorem hpop_any (ps : List P3) (lb : Nat) (A : Option Addr) (c : Nat) (hne : 0 < ps.length) (hl : ps.length ≤ 1048576) (w : World) (hh : HeapL ps) (h : LineIn w lb A c ps) :
 Calls Tryz.prog 181 #[lineV lb] w fun r w' => r = .returned (.iface 152 (at3 ps 0).val) ∧ ∃ qs, (at3 ps 0 :: qs).Perm ps ∧ HeapL qs ∧ Sep (fps (lineL lb A c ps)) w w' (lineL lb A c qs) := by
 obtain ⟨q1, hs, hp, hd, hq1⟩ := pop_split hh hne
 generalize at3 ps 0 = y at *
 unfold lineV
 have qL : w.cell? ⟨lb, 0, none⟩ = some (.slice A ps.length c) := Sep.cell h 0 0 rfl
 have H := hide (⟨h, hs, hp, hd, hq1⟩ : _ ∧ _ ∧ _ ∧ _ ∧ _)
 clear h hs hp hd hh hq1
 go_enter Tryz.func181, Tryz.ntmps181
 go_wp2_with fail
 rw [inv_len _ lb A ps.length c _ qL]
 go_wp2_with fail
 go_call (len_any A ps.length c _) as r W2 ⟨rfl, rfl⟩
 go_wp2_with fail
 rw [inv_swap _ lb A ps.length c _ qL]
 go_wp2_with fail
 rw [show (ps.length : Int) - 1 = ((ps.length - 1 : Nat) : Int) from by omega]
 have hR : (rP ps.length A c ps).here w := Sep.rowAt H.out.1 1 rfl
 have hS := swap_any ps A c 0 (ps.length - 1) (by omega) (by omega) (by omega) w hR
 clear hR
 replace hS : Calls Tryz.prog 225 #[.slice A ps.length c, .int .i64 0, .int .i64 ((ps.length - 1 : Nat) : Int)] w _ := hS
 apply Calls.mono
 focus with_reducible exact hS
 clear hS qL
 rintro r W3 ⟨⟨v', rfl⟩, g3⟩
 have M := Sep.swapped H.out.1 g3
 clear g3
 obtain ⟨n, hn⟩ : ∃ n, n = ps.length - 1 := ⟨_, rfl⟩
 rw [H.out.2.1] at M
 have hD := hdown_any q1 (y) (q1 ++ [y]) lb A c n (by have := H.out.2.2.2.2; omega) (by have := H.out.2.2.2.2; simp; omega) _ ⟨q1, rfl, List.Perm.refl _, H.out.2.2.2.1⟩ (LineIn.of (rs := []) M)
 rw [← hn]
 have HN := hide hn
 clear hn
 unfold lineV at hD
 go_wp2_with fail
 apply Calls.mono
 focus with_reducible exact hD
 clear hD
 rintro r W4 ⟨⟨v4, rfl⟩, q2, hp2, hh2, M2⟩
 replace M2 := Sep.comp (ps := lineL lb A c (q1 ++ [y])) (rs := []) M M2
 have hP := pop_any q2 (y) lb A c (by have h1 := hp2.length_eq; have := H.out.2.2.2.2; omega) _ (LineIn.of (rs := []) M2)
 go_wp2_with fail
 apply Calls.mono
 focus with_reducible exact hP
 clear hP
 rintro r W5 ⟨rfl, M3⟩
 replace M3 := Sep.comp (ps := lineL lb A c (q2 ++ [y])) (rs := []) (by simpa using M2) M3
 go_wp2_with fail
 go_ret
 exact ⟨rfl, q2, (hp2.cons _).trans H.out.2.2.1, hh2, M3⟩
set_option maxHeartbeats 1000000 in
theorem next_any (ps : List P3) (lb : Nat) (A : Option Addr) (c : Nat) (hne : 0 < ps.length) (hl : ps.length ≤ 1048576) (w : World) (hh : HeapL ps) (h : LineIn w lb A c ps) :
 Calls Tryz.prog 145 #[.pointer (some ⟨lb, 0, none⟩)] w fun r w' => r = .returned (.int .i64 (at3 ps 0).i) ∧ ∃ qs, (at3 ps 0 :: qs).Perm ps ∧ HeapL qs ∧ Sep (fps (lineL lb A c ps)) w w' (lineL lb A c qs) := by
 have hP := hide (hpop_any ps lb A c hne hl w hh h)
 clear hh h
 generalize at3 ps 0 = y at *
 obtain ⟨l1, t1, i1⟩ := y
 unfold lineV P3.val at hP
 simp only at hP ⊢
 go_enter Tryz.func145, Tryz.ntmps145
 go_wp2_with fail
 apply Calls.mono
 focus with_reducible exact hP.out
 clear hP
 rintro r W5 ⟨rfl, qs, hp, hh, M3⟩
 have HH := hide (⟨hp, hh, M3⟩ : _ ∧ _ ∧ _)
 clear hp hh M3
 go_wp2_with fail
 rw [assert_place]
 go_wp2_with fail
 rw [field_place]
 go_wp2_with fail
 go_ret
 exact ⟨rfl, qs, HH.out.1, HH.out.2.1, HH.out.2.2⟩
end Go.Proofs.YtfkdfkoigojciaaGreatDoor
