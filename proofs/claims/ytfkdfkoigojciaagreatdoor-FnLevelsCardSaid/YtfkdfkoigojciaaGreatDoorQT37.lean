/- The program's line behind a pointer: Pop, container/heap's Pop over it, next. The list of places no longer than a million. -/
import Derived.Test.YtfkdfkoigojciaaGreatDoorQT36
import Derived.Test.YtfkdfkoigojciaaGreatDoorQT33

namespace Go.Proofs.YtfkdfkoigojciaaGreatDoor
open Go.RowKit
set_option linter.unusedVariables false
theorem run_typeInfo' {P : Program} {w : World} {t : TypeId} {i : TypeInfo} (h : P.info? t = some i) : (typeInfo t).run P w = .ok i w := by
 simp only [typeInfo, Sem.run_bind]
 show Sem.run P (match P.info? t with | some i => pure i | none => stuck "no such type") w = _
 rw [h]; rfl
theorem run_asAddr' {P : Program} (a : Addr) (w : World) : (asAddr (.pointer (some a))).run P w = .ok a w := rfl
theorem run_wrap' {P : Program} (ts : Array TypeId) (t : TypeId) (a : Addr) (s1 s2 : String) (w : World) : (Builtin.ssaWrapNilChk_ ts t #[.pointer (some a), strVal s1, strVal s2]).run P w = .ok (.pointer (some a)) w := rfl
/-- A method of a type, asked of a pointer to it behind an interface: the value is loaded. -/
theorem run_method_ptr {P : Program} (fuel : Nat) (T E : TypeId) (name : String) (f : FuncId) (v : Value) (lb : Nat) (w : World)
 (hm : ((P.info? T).bind (fun i => i.methods.find? (·.name == name))).map (fun m => (m.path, m.func)) = some (#[], some (f, false)))
 (hu : P.underlying T = some (.pointer E)) (hE : (loadVar E ⟨lb, 0, none⟩).run P w = .ok v w) :
 Sem.run P (method (fuel + 1) T (.pointer (some ⟨lb, 0, none⟩)) name) w = .ok (f, v) w := by
 cases hi : P.info? T with
 | none => rw [hi] at hm; cases hm
 | some i =>
  rw [hi] at hm
  simp only [Option.bind_some] at hm
  cases hf : i.methods.find? (·.name == name) with
  | none => rw [hf] at hm; cases hm
  | some m =>
   rw [hf] at hm
   simp only [Option.map_some, Option.some.injEq, Prod.mk.injEq] at hm
   unfold method
   simp only [Sem.run_bind, run_typeInfo' hi, Result.andThen_ok, hf, hm.1, hm.2, follow, Sem.run_pure, receiverAt, run_underlying hu, Place.get, List.size_toArray, List.length_nil, decide_true, if_true, Array.isEmpty, run_wrap', run_asAddr', hE]
theorem inv_line (name : String) (f : FuncId) (hm : ((Tryz.prog.info? 106).bind (fun i => i.methods.find? (·.name == name))).map (fun m => (m.path, m.func)) = some (#[], some (f, false))) (fuel lb : Nat) (A : Option Addr) (n c : Nat) (w : World) (hc : w.cell? ⟨lb, 0, none⟩ = some (.slice A n c)) :
 Sem.run Tryz.prog (method (fuel + 1) 106 (.pointer (some ⟨lb, 0, none⟩)) name) w = .ok (f, .slice A n c) w :=
 run_method_ptr fuel 106 149 name f _ lb w hm (by kernel_rfl) (by simp [loadVar, isAgg, run_underlying (show Tryz.prog.underlying 149 = some (.slice 152) from by kernel_rfl), hc])
theorem inv_less (fuel lb : Nat) (A : Option Addr) (n c : Nat) (w : World) (hc : w.cell? ⟨lb, 0, none⟩ = some (.slice A n c)) :
 Sem.run Tryz.prog (method (fuel + 1) 106 (.pointer (some ⟨lb, 0, none⟩)) "Less") w = .ok (222, .slice A n c) w := inv_line _ _ (by kernel_rfl) fuel lb A n c w hc
theorem inv_swap (fuel lb : Nat) (A : Option Addr) (n c : Nat) (w : World) (hc : w.cell? ⟨lb, 0, none⟩ = some (.slice A n c)) :
 Sem.run Tryz.prog (method (fuel + 1) 106 (.pointer (some ⟨lb, 0, none⟩)) "Swap") w = .ok (225, .slice A n c) w := inv_line _ _ (by kernel_rfl) fuel lb A n c w hc
theorem inv_len (fuel lb : Nat) (A : Option Addr) (n c : Nat) (w : World) (hc : w.cell? ⟨lb, 0, none⟩ = some (.slice A n c)) :
 Sem.run Tryz.prog (method (fuel + 1) 106 (.pointer (some ⟨lb, 0, none⟩)) "Len") w = .ok (144, .slice A n c) w := inv_line _ _ (by kernel_rfl) fuel lb A n c w hc
/-- A line behind a pointer: its variable, and its places. -/
def lineL (lb : Nat) (A : Option Addr) (c : Nat) (ps : List P3) : List Res := [.blk lb 149 #[.slice A ps.length c], rP ps.length A c ps]
/-- The line lies in w. -/
def LineIn (w : World) (lb : Nat) (A : Option Addr) (c : Nat) (ps : List P3) : Prop := Sep (fps (lineL lb A c ps)) w w (lineL lb A c ps)
def lineV (lb : Nat) : Value := .iface 106 (.pointer (some ⟨lb, 0, none⟩))
theorem LineIn.of {S : List Nat} {w W : World} {lb : Nat} {A : Option Addr} {c : Nat} {ps : List P3} {rs : List Res} (M : Sep S w W (lineL lb A c ps ++ rs)) : LineIn W lb A c ps := Sep.same M (Below.refl _ _)
/-- Two places of the line change places. -/
theorem Sep.swapped {S : List Nat} {w W W' : World} {lb : Nat} {A : Option Addr} {c : Nat} {ps : List P3} {i j : Nat} (M : Sep S w W (lineL lb A c ps)) (k : Sep (fps [rP ps.length A c ps]) W W' [rP ps.length A c (swapL ps i j)]) : Sep S w W' (lineL lb A c (swapL ps i j)) := by
 have h := Sep.comp (ps := [rP ps.length A c ps]) (rs := [.blk lb 149 #[.slice A ps.length c]]) (M.front 1 rfl) k
 have h2 := h.front 1 rfl
 unfold lineL
 rw [swapL_length]
 exact h2
set_option maxRecDepth 100000 in
set_option maxHeartbeats 4000000 in
theorem hup_any (ps : List P3) (lb : Nat) (A : Option Addr) (c j : Nat) (hj : j < ps.length) (hl : ps.length ≤ 1048576) (w : World) (hh : HeapUp ps j) (h : LineIn w lb A c ps) :
 Calls Tryz.prog 180 #[lineV lb, .int .i64 j] w fun r w' => (∃ v, r = .returned v) ∧ ∃ qs : List P3, qs.length = ps.length ∧ qs.Perm ps ∧ HeapL qs ∧ Sep (fps (lineL lb A c ps)) w w' (lineL lb A c qs) := by
 unfold lineV
 have H := hide (⟨hh, h⟩ : _ ∧ _)
 clear hh h
 go_enter Tryz.func180, Tryz.ntmps180
 go_wp2_with fail
 go_loopw [1] (fun i wr => ∃ (j : Nat) (qs : List P3), i = .int .i64 j ∧ j < qs.length ∧ Hid (qs.Perm ps ∧ HeapUp qs j) ∧ Sep (fps (lineL lb A c ps)) w wr (lineL lb A c qs)) (fun i _ => (intOf i).toNat)
 case atStart => exact ⟨j, ps, rfl, hj, hide ⟨List.Perm.refl _, H.out.1⟩, H.out.2⟩
 case round =>
  clear H hj
  obtain ⟨j, qs, rfl, hj, HP, M⟩ := hrel
  have hql : qs.length ≤ 1048576 := by rw [HP.out.1.length_eq]; exact hl
  have qL : wr.cell? ⟨lb, 0, none⟩ = some (.slice A qs.length c) := M.cell 0 0 rfl
  by_cases h0 : j = 0
  ·subst h0
   go_wp2_with fail
   go_end0
   exact ⟨⟨_, rfl⟩, qs, HP.out.1.length_eq, HP.out.1, HP.out.2.zero, M⟩
  ·have hq : ((j : Int) - 1) / 2 = (par j : Int) := by unfold par; omega
   have hne : ¬ (par j : Int) = (j : Int) := by unfold par; omega
   have hpl : par j < j := par_lt (by omega)
   go_wp2_with fail
   rw [inv_less _ lb A qs.length c _ qL]
   go_wp2_with fail
   go_call (less_any qs A c j (par j) hj (by omega) (by omega) _ (M.rowS 1 rfl)) as r W1 ⟨rfl, g1⟩
   replace M := M.call g1
   clear qL
   have qL : W1.cell? ⟨lb, 0, none⟩ = some (.slice A qs.length c) := M.cell 0 0 rfl
   obtain ⟨bb, hbb⟩ : ∃ bb, bb = aheadP qs[j] qs[par j] := ⟨_, rfl⟩
   rw [← hbb]
   have HB := hide hbb
   clear hbb
   cases bb
   ·go_wp2_with fail
    go_end0
    refine ⟨⟨_, rfl⟩, qs, HP.out.1.length_eq, HP.out.1, HP.out.2.done ?_, M⟩
    unfold at3
    rw [getD3 hj, getD3 (by omega)]
    exact HB.out.symm
   ·go_wp2_with fail
    rw [inv_swap _ lb A qs.length c _ qL]
    go_wp2_with fail
    go_call (swap_any qs A c (par j) j (by omega) hj (by omega) _ (M.rowAt 1 rfl)) as r W2 ⟨⟨v, rfl⟩, g2⟩
    replace M := M.swapped g2
    clear qL
    go_wp2_with fail
    go_roundw
    ·refine ⟨par j, swapL qs (par j) j, by go_num, by rw [swapL_length]; omega, hide ⟨(swapL_perm (by omega) hj).trans HP.out.1, HP.out.2.swap (by omega) hj ?_⟩, M⟩
     unfold at3
     rw [getD3 hj, getD3 (by omega)]
     exact HB.out.symm
    ·simp [intOf]; omega
/-- All but the last one of rs are those of qs0, a heap but for number i; the last one is x. -/
def DnR (qs0 : List P3) (x : P3) (i : Nat) (rs : List P3) : Prop := ∃ qs : List P3, rs = qs ++ [x] ∧ qs.Perm qs0 ∧ HeapDn qs i
theorem at3_app {qs : List P3} {x : P3} {k : Nat} (h : k < qs.length) : at3 (qs ++ [x]) k = at3 qs k := by
 unfold at3; rw [getD3 (by simp; omega), getD3 h, List.getElem_append_left h]
theorem DnR.len {qs0 : List P3} {x : P3} {i : Nat} {rs : List P3} (h : DnR qs0 x i rs) : rs.length = qs0.length + 1 := by
 obtain ⟨qs, rfl, hp, _⟩ := h
 simp [hp.length_eq]
theorem DnR.done {qs0 : List P3} {x : P3} {i : Nat} {rs : List P3} (h : DnR qs0 x i rs) (hi : ∀ k, 0 < k → k < qs0.length → par k = i → leP (at3 rs i) (at3 rs k)) : ∃ qs, rs = qs ++ [x] ∧ qs.Perm qs0 ∧ HeapL qs := by
 obtain ⟨qs, rfl, hp, hd⟩ := h
 refine ⟨qs, rfl, hp, hd.done fun k h0 hk hk2 => ?_⟩
 have h1 := hi k h0 (by rw [← hp.length_eq]; exact hk) hk2
 have := par_lt h0
 rwa [at3_app hk, at3_app (by omega)] at h1
theorem DnR.swap {qs0 : List P3} {x : P3} {i j : Nat} {rs : List P3} (h : DnR qs0 x i rs) (h0 : 0 < j) (hj : j < qs0.length) (hp : par j = i) (ha : aheadP (at3 rs j) (at3 rs i) = true)
 (hm : ∀ k, 0 < k → k < qs0.length → par k = i → leP (at3 rs j) (at3 rs k)) : DnR qs0 x j (swapL rs i j) := by
 obtain ⟨qs, rfl, hpm, hd⟩ := h
 have hl := hpm.length_eq
 have h1 := par_lt h0
 rw [at3_app (by omega), at3_app (by omega)] at ha
 refine ⟨swapL qs i j, swapL_append (by omega) (by omega) _, (swapL_perm (by omega) (by omega)).trans hpm, hd.swap h0 (by omega) hp ha fun k h0 hk hk2 => ?_⟩
 have h3 := hm k h0 (by omega) hk2
 rwa [at3_app (by omega), at3_app hk] at h3
theorem at3_get {rs : List P3} {k : Nat} (h : k < rs.length) : at3 rs k = rs[k] := getD3 h
theorem par_two {k i : Nat} (h0 : 0 < k) (h : par k = i) : k = 2 * i + 1 ∨ k = 2 * i + 2 := by unfold par at h; omega
set_option maxRecDepth 100000 in
set_option maxHeartbeats 2000000 in
theorem hdown_any (qs0 : List P3) (x : P3) (rs : List P3) (lb : Nat) (A : Option Addr) (c n : Nat) (hn : n = qs0.length) (hl : rs.length ≤ 1048576) (w : World) (hh : DnR qs0 x 0 rs) (h : LineIn w lb A c rs) :
 Calls Tryz.prog 197 #[lineV lb, .int .i64 0, .int .i64 n] w fun r w' => (∃ v, r = .returned v) ∧ ∃ qs : List P3, qs.Perm qs0 ∧ HeapL qs ∧ Sep (fps (lineL lb A c rs)) w w' (lineL lb A c (qs ++ [x])) := by
 unfold lineV
 have hnl : n < rs.length := by rw [hh.len]; omega
 have H := hide (⟨hh, h, hn⟩ : _ ∧ _ ∧ _)
 clear hh h hn
 go_enter Tryz.func197, Tryz.ntmps197
 go_wp2_with fail
 go_loopw [7] (fun i wr => ∃ (i' : Nat) (ss : List P3), i = .int .i64 i' ∧ i' ≤ n ∧ Hid (n = qs0.length ∧ DnR qs0 x i' ss) ∧ Sep (fps (lineL lb A c rs)) w wr (lineL lb A c ss)) (fun i _ => (n - (intOf i).toNat : Nat))
 case atStart => exact ⟨0, rs, rfl, Nat.zero_le _, hide ⟨H.out.2.2, H.out.1⟩, H.out.2.1⟩
 case round =>
  have hnm : n < 1048576 := by omega
  clear H hnl
  obtain ⟨i, ss, rfl, hi, HP, M⟩ := hrel
  have hsl : n < ss.length := by rw [HP.out.2.len, HP.out.1]; omega
  have hsm : ss.length ≤ 1048576 := by have h1 := HP.out.2.len; have h2 := HP.out.1; omega
  obtain ⟨j1, hj1⟩ : ∃ j1, j1 = 2 * i + 1 := ⟨_, rfl⟩
  have e0 : ¬ 2 * (i : Int) + 1 < 0 := by omega
  have qL : wr.cell? ⟨lb, 0, none⟩ = some (.slice A ss.length c) := M.cell 0 0 rfl
  by_cases h1 : n ≤ j1
  ·have h1z : (n : Int) ≤ 2 * (i : Int) + 1 := by omega
   go_wp2_with fail
   go_ret
   obtain ⟨qs, rfl, hp, hq⟩ := HP.out.2.done (fun k h0 hk hk2 => by have := par_two h0 hk2; have := HP.out.1; omega)
   exact ⟨⟨_, rfl⟩, qs, hp, hq, M⟩
  ·have h1z : ¬ (n : Int) ≤ 2 * (i : Int) + 1 := by omega
   obtain ⟨j2, hj2⟩ : ∃ j2, j2 = j1 + 1 := ⟨_, rfl⟩
   by_cases h2 : j2 < n
   ·have h2z : 2 * (i : Int) + 1 + 1 < (n : Int) := by omega
    go_wp2_with fail
    rw [inv_less _ lb A ss.length c _ qL]
    go_wp2_with fail
    rw [show 2 * (i : Int) + 1 + 1 = (j2 : Int) by omega, show 2 * (i : Int) + 1 = (j1 : Int) by omega]
    apply Calls.mono
    focus with_reducible exact (less_any ss A c j2 j1 (by omega) (by omega) hsm _ (M.rowS 1 rfl))
    rintro r W1 ⟨rfl, g1⟩
    replace M := M.call g1
    clear qL g1
    have qL : W1.cell? ⟨lb, 0, none⟩ = some (.slice A ss.length c) := M.cell 0 0 rfl
    have hb0 : aheadP ss[j2] ss[j1] = aheadP (at3 ss j2) (at3 ss j1) := by rw [at3_get (by omega), at3_get (by omega)]
    rw [hb0]
    clear hb0
    obtain ⟨b1, hb1⟩ : ∃ b1, b1 = aheadP (at3 ss j2) (at3 ss j1) := ⟨_, rfl⟩
    rw [← hb1]
    have HB1 := hide hb1
    clear hb1
    cases b1
    ·have HM : Hid (∀ k, 0 < k → k < qs0.length → par k = i → leP (at3 ss j1) (at3 ss k)) := hide (fun k h0 hk hk2 => by
      rcases par_two h0 hk2 with h3 | h3
      ·rw [show k = j1 by omega]; exact leP.refl _
      ·rw [show k = j2 by omega]; exact HB1.out.symm)
     clear HB1
     go_wp2_with fail
     rw [inv_less _ lb A ss.length c _ qL]
     go_wp2_with fail
     (try rw [show 2 * (i : Int) + 1 + 1 = (j2 : Int) by omega])
     (try rw [show 2 * (i : Int) + 1 = (j1 : Int) by omega])
     apply Calls.mono
     focus with_reducible exact (less_any ss A c j1 i (by omega) (by omega) hsm _ (M.rowS 1 rfl))
     rintro r W2 ⟨rfl, g1⟩
     replace M := M.call g1
     clear qL g1
     have qL : W2.cell? ⟨lb, 0, none⟩ = some (.slice A ss.length c) := M.cell 0 0 rfl
     have hb0 : aheadP ss[j1] ss[i] = aheadP (at3 ss j1) (at3 ss i) := by rw [at3_get (by omega), at3_get (by omega)]
     rw [hb0]
     clear hb0
     obtain ⟨b2, hb2⟩ : ∃ b2, b2 = aheadP (at3 ss j1) (at3 ss i) := ⟨_, rfl⟩
     rw [← hb2]
     have HB2 := hide hb2
     clear hb2
     cases b2
     ·go_wp2_with fail
      go_ret
      obtain ⟨qs, rfl, hp, hq⟩ := HP.out.2.done (fun k h0 hk hk2 => leP.trans HB2.out.symm (HM.out k h0 hk hk2))
      exact ⟨⟨_, rfl⟩, qs, hp, hq, M⟩
     ·go_wp2_with fail
      rw [inv_swap _ lb A ss.length c _ qL]
      go_wp2_with fail
      (try rw [show 2 * (i : Int) + 1 + 1 = (j2 : Int) by omega])
      (try rw [show 2 * (i : Int) + 1 = (j1 : Int) by omega])
      have hR : (rP ss.length A c ss).here W2 := M.rowAt 1 rfl
      apply Calls.mono
      focus with_reducible exact (swap_any ss A c i j1 (by omega) (by omega) hsm _ hR)
      clear hR
      rintro r W3 ⟨⟨v, rfl⟩, g2⟩
      replace M := M.swapped g2
      clear qL
      go_wp2_with fail
      go_roundw
      ·exact ⟨j1, swapL ss i j1, by go_num, by omega, hide ⟨HP.out.1, HP.out.2.swap (by omega) (by have := HP.out.1; omega) (by unfold par; omega) HB2.out.symm HM.out⟩, M⟩
      ·simp [intOf]; omega
    ·have HM : Hid (∀ k, 0 < k → k < qs0.length → par k = i → leP (at3 ss j2) (at3 ss k)) := hide (fun k h0 hk hk2 => by
      rcases par_two h0 hk2 with h3 | h3
      ·rw [show k = j1 by omega]; exact leP.of_ahead HB1.out.symm
      ·rw [show k = j2 by omega]; exact leP.refl _)
     clear HB1
     go_wp2_with fail
     rw [inv_less _ lb A ss.length c _ qL]
     go_wp2_with fail
     (try rw [show 2 * (i : Int) + 1 + 1 = (j2 : Int) by omega])
     (try rw [show 2 * (i : Int) + 1 = (j1 : Int) by omega])
     apply Calls.mono
     focus with_reducible exact (less_any ss A c j2 i (by omega) (by omega) hsm _ (M.rowS 1 rfl))
     rintro r W2 ⟨rfl, g1⟩
     replace M := M.call g1
     clear qL g1
     have qL : W2.cell? ⟨lb, 0, none⟩ = some (.slice A ss.length c) := M.cell 0 0 rfl
     have hb0 : aheadP ss[j2] ss[i] = aheadP (at3 ss j2) (at3 ss i) := by rw [at3_get (by omega), at3_get (by omega)]
     rw [hb0]
     clear hb0
     obtain ⟨b2, hb2⟩ : ∃ b2, b2 = aheadP (at3 ss j2) (at3 ss i) := ⟨_, rfl⟩
     rw [← hb2]
     have HB2 := hide hb2
     clear hb2
     cases b2
     ·go_wp2_with fail
      go_ret
      obtain ⟨qs, rfl, hp, hq⟩ := HP.out.2.done (fun k h0 hk hk2 => leP.trans HB2.out.symm (HM.out k h0 hk hk2))
      exact ⟨⟨_, rfl⟩, qs, hp, hq, M⟩
     ·go_wp2_with fail
      rw [inv_swap _ lb A ss.length c _ qL]
      go_wp2_with fail
      (try rw [show 2 * (i : Int) + 1 + 1 = (j2 : Int) by omega])
      (try rw [show 2 * (i : Int) + 1 = (j1 : Int) by omega])
      have hR : (rP ss.length A c ss).here W2 := M.rowAt 1 rfl
      apply Calls.mono
      focus with_reducible exact (swap_any ss A c i j2 (by omega) (by omega) hsm _ hR)
      clear hR
      rintro r W3 ⟨⟨v, rfl⟩, g2⟩
      replace M := M.swapped g2
      clear qL
      go_wp2_with fail
      go_roundw
      ·exact ⟨j2, swapL ss i j2, by go_num, by omega, hide ⟨HP.out.1, HP.out.2.swap (by omega) (by have := HP.out.1; omega) (by unfold par; omega) HB2.out.symm HM.out⟩, M⟩
      ·simp [intOf]; omega
   ·have h2z : ¬ 2 * (i : Int) + 1 + 1 < (n : Int) := by omega
    have HM : Hid (∀ k, 0 < k → k < qs0.length → par k = i → leP (at3 ss j1) (at3 ss k)) := hide (fun k h0 hk hk2 => by
     have := HP.out.1
     rcases par_two h0 hk2 with h3 | h3
     ·rw [show k = j1 by omega]; exact leP.refl _
     ·omega)
    go_wp2_with fail
    rw [inv_less _ lb A ss.length c _ qL]
    go_wp2_with fail
    (try rw [show 2 * (i : Int) + 1 + 1 = (j2 : Int) by omega])
    (try rw [show 2 * (i : Int) + 1 = (j1 : Int) by omega])
    apply Calls.mono
    focus with_reducible exact (less_any ss A c j1 i (by omega) (by omega) hsm _ (M.rowS 1 rfl))
    rintro r W2 ⟨rfl, g1⟩
    replace M := M.call g1
    clear qL g1
    have qL : W2.cell? ⟨lb, 0, none⟩ = some (.slice A ss.length c) := M.cell 0 0 rfl
    have hb0 : aheadP ss[j1] ss[i] = aheadP (at3 ss j1) (at3 ss i) := by rw [at3_get (by omega), at3_get (by omega)]
    rw [hb0]
    clear hb0
    obtain ⟨b2, hb2⟩ : ∃ b2, b2 = aheadP (at3 ss j1) (at3 ss i) := ⟨_, rfl⟩
    rw [← hb2]
    have HB2 := hide hb2
    clear hb2
    cases b2
    ·go_wp2_with fail
     go_ret
     obtain ⟨qs, rfl, hp, hq⟩ := HP.out.2.done (fun k h0 hk hk2 => leP.trans HB2.out.symm (HM.out k h0 hk hk2))
     exact ⟨⟨_, rfl⟩, qs, hp, hq, M⟩
    ·go_wp2_with fail
     rw [inv_swap _ lb A ss.length c _ qL]
     go_wp2_with fail
     (try rw [show 2 * (i : Int) + 1 + 1 = (j2 : Int) by omega])
     (try rw [show 2 * (i : Int) + 1 = (j1 : Int) by omega])
     have hR : (rP ss.length A c ss).here W2 := M.rowAt 1 rfl
     apply Calls.mono
     focus with_reducible exact (swap_any ss A c i j1 (by omega) (by omega) hsm _ hR)
     clear hR
     rintro r W3 ⟨⟨v, rfl⟩, g2⟩
     replace M := M.swapped g2
     clear qL
     go_wp2_with fail
     go_roundw
     ·exact ⟨j1, swapL ss i j1, by go_num, by omega, hide ⟨HP.out.1, HP.out.2.swap (by omega) (by have := HP.out.1; omega) (by unfold par; omega) HB2.out.symm HM.out⟩, M⟩
     ·simp [intOf]; omega
set_option maxHeartbeats 4000000
set_option maxRecDepth 100000
theorem rowLit3 (w : World) (t : TypeId) (v0 v1 v2 : Value) : Row (w.alloc (.cells #[v0, v1, v2] t)) (some ⟨w.heap.size, 0, none⟩) [v0, v1, v2] :=
 Row.of_own (World.ownsRow_lit (base := 0) (e := t) (size := 3) w #[v0, v1, v2] 1 (Nat.zero_le _) (by simp [maxLen]) (by simp))
theorem pcells_snoc (ps : List P3) (x : P3) : pcells ps ++ x.cs = pcells (ps ++ [x]) := by simp [pcells]
theorem info_parts3 : ∃ i : TypeInfo, Tryz.prog.info? 152 = some i ∧ i.zero = some (.agg #[.int .i64 0, .int .i64 0, .int .i64 0]) ∧ i.size = 3 ∧ i.bytes = 24 := by
 have h := infoPlace
 cases hi : Tryz.prog.info? 152 with
 | none => rw [hi] at h; cases h
 | some i =>
  rw [hi] at h
  simp only [Option.map_some, Option.some.injEq, Prod.mk.injEq] at h
  exact ⟨i, rfl, h.1, h.2.1, h.2.2⟩
theorem assert_place (v : Value) (w : World) : Sem.run Tryz.prog (Instr.typeAssert (.iface 152 v) 20 152 false) w = .ok v w := by kernel_rfl
/-- The row grows by a place, and the variable has it. -/
theorem Sep.pushed {S : List Nat} {w W W' : World} {lb : Nat} {A A' : Option Addr} {c c' n : Nat} {ps : List P3} {x : P3} (hn : n = ps.length) (M : Sep S w W (lineL lb A c ps)) (k : Sep (fps [rP ps.length A c ps]) W W' [rP (n + 1) A' c' (ps ++ [x])]) : Sep S w (W'.setCell ⟨lb, 0, none⟩ (.slice A' (n + 1) c')) (lineL lb A' c' (ps ++ [x])) := by
 subst hn
 have h := Sep.comp (ps := [rP ps.length A c ps]) (rs := [.blk lb 149 #[.slice A ps.length c]]) (M.front 1 rfl) k
 have h2 := (h.front 1 rfl).set 0 rfl 0 (.slice A' (ps.length + 1) c')
 have e : (ps ++ [x]).length = ps.length + 1 := by simp
 unfold lineL
 rw [e]
 exact h2
theorem push_any (ps : List P3) (lb : Nat) (A : Option Addr) (c : Nat) (l t i : Int) (hl : ps.length < 1048576) (w : World) (h : LineIn w lb A c ps) :
 Calls Tryz.prog 224 #[.pointer (some ⟨lb, 0, none⟩), .iface 152 (.agg #[.int .i64 l, .int .i64 t, .int .i64 i])] w fun r w' => (∃ v, r = .returned v) ∧ ∃ A' c', Sep (fps (lineL lb A c ps)) w w' (lineL lb A' c' (ps ++ [⟨l, t, i⟩])) := by
 obtain ⟨i0, hi, hz0, hz1, hz2⟩ := info_parts3
 have qL : w.cell? ⟨lb, 0, none⟩ = some (.slice A ps.length c) := Sep.cell h 0 0 rfl
 have fL : w.frozen? ⟨lb, 0, none⟩ = false := Sep.fz h 0 0 rfl
 have hta := fun w => assert_place (.agg #[.int .i64 l, .int .i64 t, .int .i64 i]) w
 have H := hide h
 clear h
 go_enter Tryz.func224, Tryz.ntmps224
 go_wp2_with fail
 refine wp_region_T (S := (fun w' => w'.cell? ⟨lb, 0, none⟩ = some (.slice A ps.length c))) (ks := [9]) (by kernel_rfl) qL (fun hHeld => ?_)
 refine tkYa 0 _ rfl (fun _ => hHeld) ?_
 try simp only [Act.put, zI, zZ, zS]
 refine tkYa 1 _ rfl (fun _ => hHeld) ?_
 try simp only [Act.put, zI, zZ, zS]
 refine tkYa 2 _ rfl (fun _ => hHeld) ?_
 try simp only [Act.put, zI, zZ, zS]
 refine tkLa 3 _ rfl hHeld ?_
 try simp only [Act.put, zI, zZ, zS]
 refine tkYa 4 _ rfl (fun _ => hHeld) ?_
 try simp only [Act.put, zI, zZ, zS]
 refine tkYa 5 _ rfl (fun _ => hHeld) ?_
 try simp only [Act.put, zI, zZ, zS]
 refine wpAnyT_callL (i := 6) rfl (by kernel_rfl) (fun K hK => ?_)
 go_simp
 refine hK.out _ _ ?_ (fun hHeld => ?_)
 ·exact (Sep.cell (Sep.allocN H.out _ _) 1 0 rfl)
 clear hK K
 try simp only [Act.put, zI, zZ, zS]
 have M1 : Sep (fps (lineL lb A c ps)) w (w.alloc (.cells #[.int .i64 l, .int .i64 t, .int .i64 i] 152)).drew (.blk w.heap.size 152 #[.int .i64 l, .int .i64 t, .int .i64 i] :: lineL lb A c ps) := Sep.drew (Sep.allocN H.out 152 #[.int .i64 l, .int .i64 t, .int .i64 i])
 have hR1 : Row (w.alloc (.cells #[.int .i64 l, .int .i64 t, .int .i64 i] 152)).drew (some ⟨w.heap.size, 0, none⟩) [.int .i64 l, .int .i64 t, .int .i64 i] := rowLit3 w 152 _ _ _
 generalize (w.alloc (.cells #[.int .i64 l, .int .i64 t, .int .i64 i] 152)).drew = W1 at M1 hR1 hHeld ⊢
 have hO : W1.ownsRow 0 152 3 (.slice A ps.length c) ps.length (pcells ps) := Sep.rowAt M1 2 rfl
 refine wpAnyT_callL (i := 7) rfl (by kernel_rfl) (fun K hK => ?_)
 refine step_append_sep rfl (.tmp 7) (.tmp 10) 149 rfl 152 i0 (.agg #[.int .i64 0, .int .i64 0, .int .i64 0]) 3 24 Tryz.underlying149 hi hz0 hz1 hz2 rfl (by decide) A ps.length c (pcells ps) rfl hO ⟨w.heap.size, 0, none⟩ 1 1 [.int .i64 l, .int .i64 t, .int .i64 i] rfl rfl hR1 (by simp) (by simp [Value.oneCell']) (by unfold maxLen; omega) (by omega) ?_
 intro A' c' W2 k
 have k' : Sep (fps [rP ps.length A c ps]) W1 W2 [rP (ps.length + 1) A' c' (ps ++ [⟨l, t, i⟩])] := by unfold rP; rw [← pcells_snoc]; exact k
 have M2 := Sep.comp (ps := [rP ps.length A c ps]) (rs := [.blk lb 149 #[.slice A ps.length c]]) ((Sep.tail M1).front 1 rfl) k'
 have fL2 : W2.frozen? ⟨lb, 0, none⟩ = false := Sep.fz M2 1 0 rfl
 have tL2 := Sep.lt M2 1 rfl
 refine hK.out _ _ ?_ (fun hHeld => ?_)
 ·exact Sep.cell M2 1 0 rfl
 clear hK K
 try simp only [Act.put, zI, zZ, zS]
 refine tkYa 8 _ rfl (fun _ => hHeld) ?_
 try simp only [Act.put, zI, zZ, zS]
 refine wpAnyT_oneL (i := 9) rfl (by kernel_rfl) (by kernel_rfl) (fun K hK => ?_)
 go_simp
 refine hK.out _ _ ?_
 clear hK K
 try simp only [Act.put, zI, zZ, zS]
 refine wpAnyT_done (by kernel_rfl) ?_ _
 go_end0
 refine ⟨⟨_, rfl⟩, A', c', ?_⟩
 exact Sep.pushed rfl (Sep.tail M1) k'
theorem hpush_any (ps : List P3) (lb : Nat) (A : Option Addr) (c : Nat) (l t i : Int) (hl : ps.length < 1048576) (w : World) (hh : HeapL ps) (h : LineIn w lb A c ps) :
 Calls Tryz.prog 143 #[lineV lb, .iface 152 (.agg #[.int .i64 l, .int .i64 t, .int .i64 i])] w fun r w' => (∃ v, r = .returned v) ∧ ∃ A' c' qs, qs.Perm (ps ++ [⟨l, t, i⟩]) ∧ HeapL qs ∧ Sep (fps (lineL lb A c ps)) w w' (lineL lb A' c' qs) := by
 unfold lineV
 have H := hide (⟨h, hh⟩ : _ ∧ _)
 clear h hh
 go_enter Tryz.func143, Tryz.ntmps143
 go_wp2_with fail
 go_call (push_any ps lb A c l t i hl _ H.out.1) as r W1 ⟨⟨v, rfl⟩, A', c', M⟩
 have qL : W1.cell? ⟨lb, 0, none⟩ = some (.slice A' (ps ++ [(⟨l, t, i⟩ : P3)]).length c') := Sep.cell M 0 0 rfl
 obtain ⟨qs, hqs⟩ : ∃ qs, qs = ps ++ [(⟨l, t, i⟩ : P3)] := ⟨_, rfl⟩
 rw [← hqs] at M qL
 have HQ := hide (⟨hqs, show HeapUp qs ps.length from by rw [hqs]; exact H.out.2.push _, show qs.length = ps.length + 1 from by rw [hqs]; simp⟩ : _ ∧ _ ∧ _)
 have hql : qs.length ≤ 1048576 := by have := HQ.out.2.2; omega
 clear hqs
 go_wp2_with fail
 rw [inv_len _ lb A' qs.length c' _ qL]
 go_wp2_with fail
 go_call (len_any A' qs.length c' _) as r W2 ⟨rfl, rfl⟩
 go_wp2_with fail
 rw [show (qs.length : Int) - 1 = (ps.length : Int) from by have := HQ.out.2.2; omega]
 have hU := hup_any qs lb A' c' ps.length (by have := HQ.out.2.2; omega) hql _ HQ.out.2.1 (LineIn.of (rs := []) M)
 unfold lineV at hU
 apply Calls.mono
 focus with_reducible exact hU
 rintro r W3 ⟨⟨v', rfl⟩, qs', hn', hp', hh', M'⟩
 go_wp2_with fail
 go_end0
 refine ⟨⟨_, rfl⟩, A', c', qs', by rw [← HQ.out.1]; exact hp', hh', ?_⟩
 have := Sep.comp (ps := lineL lb A' c' qs) (rs := []) M M'
 exact this
set_option maxHeartbeats 1000000
set_option maxRecDepth 100000
/-- The last place leaves the row. -/
theorem Sep.popped {S : List Nat} {w W W' : World} {lb g : Nat} {c n : Nat} {qs : List P3} {x : P3} (hn : n = qs.length) (M : Sep S w W (lineL lb (some ⟨g, 0, none⟩) c (qs ++ [x]))) (hb : Below W.heap.size W W') : Sep S w (W'.setCell ⟨lb, 0, none⟩ (.slice (some ⟨g, 0, none⟩) n c)) (lineL lb (some ⟨g, 0, none⟩) c qs) := by
 subst hn
 have M2 := M.call hb
 have h1 : W'.ownsRow 0 152 3 (.slice (some ⟨g, 0, none⟩) (qs ++ [x]).length c) (qs ++ [x]).length (pcells (qs ++ [x])) := M2.rowAt 1 rfl
 have h2 := Own.cut h1 (k := qs.length) (by simp)
 rw [pcells_take, List.take_left] at h2
 have k : Sep (fps [rP (qs ++ [x]).length (some ⟨g, 0, none⟩) c (qs ++ [x])]) W' W' [rP qs.length (some ⟨g, 0, none⟩) c qs] := sepOne (fun _ h => .inl h) (World.grownBy.refl _ _) h2
 have h3 := Sep.comp (ps := [rP (qs ++ [x]).length (some ⟨g, 0, none⟩) c (qs ++ [x])]) (rs := [.blk lb 149 #[.slice (some ⟨g, 0, none⟩) (qs ++ [x]).length c]]) (M2.front 1 rfl) k
 exact (h3.front 1 rfl).set 0 rfl 0 (.slice (some ⟨g, 0, none⟩) qs.length c)
theorem pop_any (qs : List P3) (x : P3) (lb : Nat) (A : Option Addr) (c : Nat) (hl : qs.length < 1048576) (w : World) (h : LineIn w lb A c (qs ++ [x])) :
 Calls Tryz.prog 223 #[.pointer (some ⟨lb, 0, none⟩)] w fun r w' => r = .returned (.iface 152 x.val) ∧ Sep (fps (lineL lb A c (qs ++ [x]))) w w' (lineL lb A c qs) := by
 obtain ⟨ps, hps⟩ : ∃ ps, ps = qs ++ [x] := ⟨_, rfl⟩
 rw [← hps] at h
 have hlen : ps.length = qs.length + 1 := by rw [hps]; simp
 have hR : (rP ps.length A c ps).here w := Sep.here h _ (by simp [lineL])
 obtain ⟨g, rfl, hgl, hfz⟩ := rP_form hR (by omega)
 obtain ⟨b, off, e, hb, z0, z1, z2⟩ := (Row.of_own hR).ps_at (k := qs.length) (by omega)
 injection e with e
 injection e with e1 e2
 subst e1 e2
 simp only [Nat.zero_add] at z0 z1 z2
 have hx : ps[qs.length] = x := by subst hps; simp
 rw [hx] at z0 z1 z2
 have qL : w.cell? ⟨lb, 0, none⟩ = some (.slice (some ⟨g, 0, none⟩) ps.length c) := Sep.cell h 0 0 rfl
 have fL : w.frozen? ⟨lb, 0, none⟩ = false := Sep.fz h 0 0 rfl
 have tL : lb < w.heap.size := Sep.lt h 0 rfl
 have ne : w.heap.size ≠ lb := by omega
 have ne2 : w.heap.size ≠ g := by omega
 have hcap : ps.length ≤ c := own_cap (show w.ownsRow 0 152 3 (.slice (some ⟨g, 0, none⟩) ps.length c) ps.length (pcells ps) from hR)
 have H := hide (⟨h, hps, hlen⟩ : _ ∧ _ ∧ _)
 rw [← hps]
 have hn : (ps.length : Int) - 1 = (qs.length : Int) := by omega
 have hn1 : (qs.length : Int) < (ps.length : Int) := by omega
 have hn0 : (0 : Int) ≤ (qs.length : Int) := by omega
 have hn2 : (qs.length : Int) ≤ (c : Int) := by omega
 have hn3 : qs.length ≤ c := by omega
 clear h hR hx hps hlen hfz hcap hb
 obtain ⟨l, t, i⟩ := x
 simp only at z0 z1 z2
 unfold P3.val
 generalize qs.length = n at *
 go_enter Tryz.func223, Tryz.ntmps223
 go_wp2_with fail
 go_ret
 rw [H.out.2.1]
 have M := H.out.1
 unfold LineIn at M
 rw [H.out.2.1] at M
 exact ⟨rfl, (Sep.allocN (Sep.popped (by have h1 := H.out.2.2; have h2 := congrArg List.length H.out.2.1; simp at h2; omega) M (Below.refl _ _)) _ _).tail⟩
theorem field_place (l t i : Int) (w : World) : Sem.run Tryz.prog (Instr.field 152 (.agg #[.int .i64 l, .int .i64 t, .int .i64 i]) 2) w = .ok (.int .i64 i) w := by kernel_rfl
/-- The first one and the last one change places: all but the last one are a heap but for the root. -/
theorem pop_split {ps : List P3} (hh : HeapL ps) (hne : 0 < ps.length) : ∃ qs, swapL ps 0 (ps.length - 1) = qs ++ [at3 ps 0] ∧ (at3 ps 0 :: qs).Perm ps ∧ HeapDn qs 0 ∧ qs.length + 1 = ps.length := by
 rcases List.eq_nil_or_concat ps with rfl | ⟨qs, y, rfl⟩
 ·simp at hne
 ·simp only [List.concat_eq_append] at hh hne ⊢
  rw [List.length_append, List.length_singleton, Nat.add_sub_cancel]
  rcases Nat.eq_zero_or_pos qs.length with h0 | h0
  ·obtain rfl := List.eq_nil_of_length_eq_zero h0
   exact ⟨[], swapL_self (by simp), List.Perm.refl _, ⟨fun k h1 h2 => by simp at h2, fun h1 => by omega⟩, rfl⟩
  ·refine ⟨qs.set 0 y, ?_, ?_, HeapL.popped hh h0, by simp⟩
   ·rw [swap_last h0, at3_app h0]
   ·rw [at3_app h0]; exact popped_perm h0
theorem hpop_any (ps : List P3) (lb : Nat) (A : Option Addr) (c : Nat) (hne : 0 < ps.length) (hl : ps.length ≤ 1048576) (w : World) (hh : HeapL ps) (h : LineIn w lb A c ps) :
 Calls Tryz.prog 181 #[lineV lb] w fun r w' => r = .returned (.iface 152 (at3 ps 0).val) ∧ ∃ qs, (at3 ps 0 :: qs).Perm ps ∧ HeapL qs ∧ Sep (fps (lineL lb A c ps)) w w' (lineL lb A c qs) := by
 obtain ⟨q1, hs, hp, hd, hq1⟩ := pop_split hh hne
 generalize at3 ps 0 = y at *
 unfold lineV
 have qL : w.cell? ⟨lb, 0, none⟩ = some (.slice A ps.length c) := Sep.cell h 0 0 rfl
 have H := hide (⟨h, hs, hp, hd, hq1⟩ : _ ∧ _ ∧ _ ∧ _ ∧ _)
 clear h hs hp hd hh hq1
 go_enter Tryz.func181, Tryz.ntmps181
 go_wp2_with fail
 rw [inv_len _ lb A ps.length c _ qL]
 go_wp2_with fail
 go_call (len_any A ps.length c _) as r W2 ⟨rfl, rfl⟩
 go_wp2_with fail
 rw [inv_swap _ lb A ps.length c _ qL]
 go_wp2_with fail
 rw [show (ps.length : Int) - 1 = ((ps.length - 1 : Nat) : Int) from by omega]
 have hR : (rP ps.length A c ps).here w := Sep.rowAt H.out.1 1 rfl
 have hS := swap_any ps A c 0 (ps.length - 1) (by omega) (by omega) (by omega) w hR
 clear hR
 replace hS : Calls Tryz.prog 225 #[.slice A ps.length c, .int .i64 0, .int .i64 ((ps.length - 1 : Nat) : Int)] w _ := hS
 apply Calls.mono
 focus with_reducible exact hS
 clear hS qL
 rintro r W3 ⟨⟨v', rfl⟩, g3⟩
 have M := Sep.swapped H.out.1 g3
 clear g3
 obtain ⟨n, hn⟩ : ∃ n, n = ps.length - 1 := ⟨_, rfl⟩
 rw [H.out.2.1] at M
 have hD := hdown_any q1 (y) (q1 ++ [y]) lb A c n (by have := H.out.2.2.2.2; omega) (by have := H.out.2.2.2.2; simp; omega) _ ⟨q1, rfl, List.Perm.refl _, H.out.2.2.2.1⟩ (LineIn.of (rs := []) M)
 rw [← hn]
 have HN := hide hn
 clear hn
 unfold lineV at hD
 go_wp2_with fail
 apply Calls.mono
 focus with_reducible exact hD
 clear hD
 rintro r W4 ⟨⟨v4, rfl⟩, q2, hp2, hh2, M2⟩
 replace M2 := Sep.comp (ps := lineL lb A c (q1 ++ [y])) (rs := []) M M2
 have hP := pop_any q2 (y) lb A c (by have h1 := hp2.length_eq; have := H.out.2.2.2.2; omega) _ (LineIn.of (rs := []) M2)
 go_wp2_with fail
 apply Calls.mono
 focus with_reducible exact hP
 clear hP
 rintro r W5 ⟨rfl, M3⟩
 replace M3 := Sep.comp (ps := lineL lb A c (q2 ++ [y])) (rs := []) (by simpa using M2) M3
 go_wp2_with fail
 go_ret
 exact ⟨rfl, q2, (hp2.cons _).trans H.out.2.2.1, hh2, M3⟩
theorem next_any (ps : List P3) (lb : Nat) (A : Option Addr) (c : Nat) (hne : 0 < ps.length) (hl : ps.length ≤ 1048576) (w : World) (hh : HeapL ps) (h : LineIn w lb A c ps) :
 Calls Tryz.prog 145 #[.pointer (some ⟨lb, 0, none⟩)] w fun r w' => r = .returned (.int .i64 (at3 ps 0).i) ∧ ∃ qs, (at3 ps 0 :: qs).Perm ps ∧ HeapL qs ∧ Sep (fps (lineL lb A c ps)) w w' (lineL lb A c qs) := by
 have hP := hide (hpop_any ps lb A c hne hl w hh h)
 clear hh h
 generalize at3 ps 0 = y at *
 obtain ⟨l1, t1, i1⟩ := y
 unfold lineV P3.val at hP
 simp only at hP ⊢
 go_enter Tryz.func145, Tryz.ntmps145
 go_wp2_with fail
 apply Calls.mono
 focus with_reducible exact hP.out
 clear hP
 rintro r W5 ⟨rfl, qs, hp, hh, M3⟩
 have HH := hide (⟨hp, hh, M3⟩ : _ ∧ _ ∧ _)
 clear hp hh M3
 go_wp2_with fail
 rw [assert_place]
 go_wp2_with fail
 rw [field_place]
 go_wp2_with fail
 go_ret
 exact ⟨rfl, qs, HH.out.1, HH.out.2.1, HH.out.2.2⟩
end Go.Proofs.YtfkdfkoigojciaaGreatDoor
