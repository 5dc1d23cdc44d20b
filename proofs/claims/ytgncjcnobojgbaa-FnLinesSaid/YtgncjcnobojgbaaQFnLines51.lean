/- The program's line behind a pointer: container/heap's down over it. The list of places no longer than a million. -/
import Derived.Test.YtgncjcnobojgbaaQFnLines50

namespace Go.Proofs.Ytgncjcnobojgbaa
open Go.RowKit
set_option linter.unusedVariables false

theorem run_typeInfo' {P : Program} {w : World} {t : TypeId} {i : TypeInfo} (h : P.info? t = some i) : (typeInfo t).run P w = .ok i w := by
  simp only [typeInfo, Sem.run_bind]
  show Sem.run P (match P.info? t with | some i => pure i | none => stuck "no such type") w = _
  rw [h]; rfl
theorem run_asAddr' {P : Program} (a : Addr) (w : World) : (asAddr (.pointer (some a))).run P w = .ok a w := rfl
theorem run_wrap' {P : Program} (ts : Array TypeId) (t : TypeId) (a : Addr) (s1 s2 : String) (w : World) : (Builtin.ssaWrapNilChk_ ts t #[.pointer (some a), strVal s1, strVal s2]).run P w = .ok (.pointer (some a)) w := rfl
/-- A method of a type, asked of a pointer to it behind an interface: the value is loaded. -/
theorem run_method_ptr {P : Program} (fuel : Nat) (T E : TypeId) (name : String) (f : FuncId) (v : Value) (lb : Nat) (w : World)
    (hm : ((P.info? T).bind (fun i => i.methods.find? (·.name == name))).map (fun m => (m.path, m.func)) = some (#[], some (f, false)))
    (hu : P.underlying T = some (.pointer E)) (hE : (loadVar E ⟨lb, 0, none⟩).run P w = .ok v w) :
    Sem.run P (method (fuel + 1) T (.pointer (some ⟨lb, 0, none⟩)) name) w = .ok (f, v) w := by
  cases hi : P.info? T with
  | none => rw [hi] at hm; cases hm
  | some i =>
    rw [hi] at hm
    simp only [Option.bind_some] at hm
    cases hf : i.methods.find? (·.name == name) with
    | none => rw [hf] at hm; cases hm
    | some m =>
      rw [hf] at hm
      simp only [Option.map_some, Option.some.injEq, Prod.mk.injEq] at hm
      unfold method
      simp only [Sem.run_bind, run_typeInfo' hi, Result.andThen_ok, hf, hm.1, hm.2, follow, Sem.run_pure, receiverAt, run_underlying hu, Place.get, List.size_toArray, List.length_nil, decide_true, if_true, Array.isEmpty, run_wrap', run_asAddr', hE]
theorem inv_line (name : String) (f : FuncId) (hm : ((Try.prog.info? 93).bind (fun i => i.methods.find? (·.name == name))).map (fun m => (m.path, m.func)) = some (#[], some (f, false))) (fuel lb : Nat) (A : Option Addr) (n c : Nat) (w : World) (hc : w.cell? ⟨lb, 0, none⟩ = some (.slice A n c)) :
    Sem.run Try.prog (method (fuel + 1) 93 (.pointer (some ⟨lb, 0, none⟩)) name) w = .ok (f, .slice A n c) w :=
  run_method_ptr fuel 93 132 name f _ lb w hm (by kernel_rfl) (by simp [loadVar, isAgg, run_underlying (show Try.prog.underlying 132 = some (.slice 135) from by kernel_rfl), hc])
theorem inv_less (fuel lb : Nat) (A : Option Addr) (n c : Nat) (w : World) (hc : w.cell? ⟨lb, 0, none⟩ = some (.slice A n c)) :
    Sem.run Try.prog (method (fuel + 1) 93 (.pointer (some ⟨lb, 0, none⟩)) "Less") w = .ok (189, .slice A n c) w := inv_line _ _ (by kernel_rfl) fuel lb A n c w hc
theorem inv_swap (fuel lb : Nat) (A : Option Addr) (n c : Nat) (w : World) (hc : w.cell? ⟨lb, 0, none⟩ = some (.slice A n c)) :
    Sem.run Try.prog (method (fuel + 1) 93 (.pointer (some ⟨lb, 0, none⟩)) "Swap") w = .ok (192, .slice A n c) w := inv_line _ _ (by kernel_rfl) fuel lb A n c w hc
theorem inv_len (fuel lb : Nat) (A : Option Addr) (n c : Nat) (w : World) (hc : w.cell? ⟨lb, 0, none⟩ = some (.slice A n c)) :
    Sem.run Try.prog (method (fuel + 1) 93 (.pointer (some ⟨lb, 0, none⟩)) "Len") w = .ok (117, .slice A n c) w := inv_line _ _ (by kernel_rfl) fuel lb A n c w hc
/-- A line behind a pointer: its variable, and its places. -/
def lineL (lb : Nat) (A : Option Addr) (c : Nat) (ps : List P3) : List Res := [.blk lb 132 #[.slice A ps.length c], rP ps.length A c ps]
/-- The line lies in w. -/
def LineIn (w : World) (lb : Nat) (A : Option Addr) (c : Nat) (ps : List P3) : Prop := Sep (fps (lineL lb A c ps)) w w (lineL lb A c ps)
def lineV (lb : Nat) : Value := .iface 93 (.pointer (some ⟨lb, 0, none⟩))
theorem LineIn.of {S : List Nat} {w W : World} {lb : Nat} {A : Option Addr} {c : Nat} {ps : List P3} {rs : List Res} (M : Sep S w W (lineL lb A c ps ++ rs)) : LineIn W lb A c ps := Sep.same M (Below.refl _ _)
/-- Two places of the line change places. -/
theorem Sep.swapped {S : List Nat} {w W W' : World} {lb : Nat} {A : Option Addr} {c : Nat} {ps : List P3} {i j : Nat} (M : Sep S w W (lineL lb A c ps)) (k : Sep (fps [rP ps.length A c ps]) W W' [rP ps.length A c (swapL ps i j)]) : Sep S w W' (lineL lb A c (swapL ps i j)) := by
  have h := Sep.comp (ps := [rP ps.length A c ps]) (rs := [.blk lb 132 #[.slice A ps.length c]]) (M.front 1 rfl) k
  have h2 := h.front 1 rfl
  unfold lineL
  rw [swapL_length]
  exact h2

set_option maxRecDepth 100000 in
set_option maxHeartbeats 4000000 in
theorem hup_any (ps : List P3) (lb : Nat) (A : Option Addr) (c j : Nat) (hj : j < ps.length) (hl : ps.length ≤ 1048576) (w : World) (hh : HeapUp ps j) (h : LineIn w lb A c ps) :
    Calls Try.prog 154 #[lineV lb, .int .i64 j] w fun r w' => (∃ v, r = .returned v) ∧ ∃ qs : List P3, qs.length = ps.length ∧ qs.Perm ps ∧ HeapL qs ∧ Sep (fps (lineL lb A c ps)) w w' (lineL lb A c qs) := by
  unfold lineV
  have H := hide (⟨hh, h⟩ : _ ∧ _)
  clear hh h
  go_enter Try.func154, Try.ntmps154
  go_wp2_with fail
  go_loopw [1] (fun i wr => ∃ (j : Nat) (qs : List P3), i = .int .i64 j ∧ j < qs.length ∧ Hid (qs.Perm ps ∧ HeapUp qs j) ∧ Sep (fps (lineL lb A c ps)) w wr (lineL lb A c qs)) (fun i _ => (intOf i).toNat)
  case atStart => exact ⟨j, ps, rfl, hj, hide ⟨List.Perm.refl _, H.out.1⟩, H.out.2⟩
  case round =>
    clear H hj
    obtain ⟨j, qs, rfl, hj, HP, M⟩ := hrel
    have hql : qs.length ≤ 1048576 := by rw [HP.out.1.length_eq]; exact hl
    have qL : wr.cell? ⟨lb, 0, none⟩ = some (.slice A qs.length c) := M.cell 0 0 rfl
    by_cases h0 : j = 0
    · subst h0
      go_wp2_with fail
      go_end0
      exact ⟨⟨_, rfl⟩, qs, HP.out.1.length_eq, HP.out.1, HP.out.2.zero, M⟩
    · have hq : ((j : Int) - 1) / 2 = (par j : Int) := by unfold par; omega
      have hne : ¬ (par j : Int) = (j : Int) := by unfold par; omega
      have hpl : par j < j := par_lt (by omega)
      go_wp2_with fail
      rw [inv_less _ lb A qs.length c _ qL]
      go_wp2_with fail
      go_call (less_any qs A c j (par j) hj (by omega) (by omega) _ (M.rowS 1 rfl)) as r W1 ⟨rfl, g1⟩
      replace M := M.call g1
      clear qL
      have qL : W1.cell? ⟨lb, 0, none⟩ = some (.slice A qs.length c) := M.cell 0 0 rfl
      obtain ⟨bb, hbb⟩ : ∃ bb, bb = aheadP qs[j] qs[par j] := ⟨_, rfl⟩
      rw [← hbb]
      have HB := hide hbb
      clear hbb
      cases bb
      · go_wp2_with fail
        go_end0
        refine ⟨⟨_, rfl⟩, qs, HP.out.1.length_eq, HP.out.1, HP.out.2.done ?_, M⟩
        unfold at3
        rw [getD3 hj, getD3 (by omega)]
        exact HB.out.symm
      · go_wp2_with fail
        rw [inv_swap _ lb A qs.length c _ qL]
        go_wp2_with fail
        go_call (swap_any qs A c (par j) j (by omega) hj (by omega) _ (M.rowAt 1 rfl)) as r W2 ⟨⟨v, rfl⟩, g2⟩
        replace M := M.swapped g2
        clear qL
        go_wp2_with fail
        go_roundw
        · refine ⟨par j, swapL qs (par j) j, by go_num, by rw [swapL_length]; omega, hide ⟨(swapL_perm (by omega) hj).trans HP.out.1, HP.out.2.swap (by omega) hj ?_⟩, M⟩
          unfold at3
          rw [getD3 hj, getD3 (by omega)]
          exact HB.out.symm
        · simp [intOf]; omega
end Go.Proofs.Ytgncjcnobojgbaa

namespace Go.Proofs.Ytgncjcnobojgbaa
open Go.RowKit
set_option linter.unusedVariables false

/-- All but the last one of rs are those of qs0, a heap but for number i; the last one is x. -/
def DnR (qs0 : List P3) (x : P3) (i : Nat) (rs : List P3) : Prop := ∃ qs : List P3, rs = qs ++ [x] ∧ qs.Perm qs0 ∧ HeapDn qs i
theorem at3_app {qs : List P3} {x : P3} {k : Nat} (h : k < qs.length) : at3 (qs ++ [x]) k = at3 qs k := by
  unfold at3; rw [getD3 (by simp; omega), getD3 h, List.getElem_append_left h]
theorem DnR.len {qs0 : List P3} {x : P3} {i : Nat} {rs : List P3} (h : DnR qs0 x i rs) : rs.length = qs0.length + 1 := by
  obtain ⟨qs, rfl, hp, _⟩ := h
  simp [hp.length_eq]
theorem DnR.done {qs0 : List P3} {x : P3} {i : Nat} {rs : List P3} (h : DnR qs0 x i rs) (hi : ∀ k, 0 < k → k < qs0.length → par k = i → leP (at3 rs i) (at3 rs k)) : ∃ qs, rs = qs ++ [x] ∧ qs.Perm qs0 ∧ HeapL qs := by
  obtain ⟨qs, rfl, hp, hd⟩ := h
  refine ⟨qs, rfl, hp, hd.done fun k h0 hk hk2 => ?_⟩
  have h1 := hi k h0 (by rw [← hp.length_eq]; exact hk) hk2
  have := par_lt h0
  rwa [at3_app hk, at3_app (by omega)] at h1
theorem DnR.swap {qs0 : List P3} {x : P3} {i j : Nat} {rs : List P3} (h : DnR qs0 x i rs) (h0 : 0 < j) (hj : j < qs0.length) (hp : par j = i) (ha : aheadP (at3 rs j) (at3 rs i) = true)
    (hm : ∀ k, 0 < k → k < qs0.length → par k = i → leP (at3 rs j) (at3 rs k)) : DnR qs0 x j (swapL rs i j) := by
  obtain ⟨qs, rfl, hpm, hd⟩ := h
  have hl := hpm.length_eq
  have h1 := par_lt h0
  rw [at3_app (by omega), at3_app (by omega)] at ha
  refine ⟨swapL qs i j, swapL_append (by omega) (by omega) _, (swapL_perm (by omega) (by omega)).trans hpm, hd.swap h0 (by omega) hp ha fun k h0 hk hk2 => ?_⟩
  have h3 := hm k h0 (by omega) hk2
  rwa [at3_app (by omega), at3_app hk] at h3
theorem at3_get {rs : List P3} {k : Nat} (h : k < rs.length) : at3 rs k = rs[k] := getD3 h
theorem par_two {k i : Nat} (h0 : 0 < k) (h : par k = i) : k = 2 * i + 1 ∨ k = 2 * i + 2 := by unfold par at h; omega

set_option maxRecDepth 100000 in
set_option maxHeartbeats 2000000 in
theorem hdown_any (qs0 : List P3) (x : P3) (rs : List P3) (lb : Nat) (A : Option Addr) (c n : Nat) (hn : n = qs0.length) (hl : rs.length ≤ 1048576) (w : World) (hh : DnR qs0 x 0 rs) (h : LineIn w lb A c rs) :
    Calls Try.prog 166 #[lineV lb, .int .i64 0, .int .i64 n] w fun r w' => (∃ v, r = .returned v) ∧ ∃ qs : List P3, qs.Perm qs0 ∧ HeapL qs ∧ Sep (fps (lineL lb A c rs)) w w' (lineL lb A c (qs ++ [x])) := by
  unfold lineV
  have hnl : n < rs.length := by rw [hh.len]; omega
  have H := hide (⟨hh, h, hn⟩ : _ ∧ _ ∧ _)
  clear hh h hn
  go_enter Try.func166, Try.ntmps166
  go_wp2_with fail
  go_loopw [7] (fun i wr => ∃ (i' : Nat) (ss : List P3), i = .int .i64 i' ∧ i' ≤ n ∧ Hid (n = qs0.length ∧ DnR qs0 x i' ss) ∧ Sep (fps (lineL lb A c rs)) w wr (lineL lb A c ss)) (fun i _ => (n - (intOf i).toNat : Nat))
  case atStart => exact ⟨0, rs, rfl, Nat.zero_le _, hide ⟨H.out.2.2, H.out.1⟩, H.out.2.1⟩
  case round =>
    have hnm : n < 1048576 := by omega
    clear H hnl
    obtain ⟨i, ss, rfl, hi, HP, M⟩ := hrel
    have hsl : n < ss.length := by rw [HP.out.2.len, HP.out.1]; omega
    have hsm : ss.length ≤ 1048576 := by have h1 := HP.out.2.len; have h2 := HP.out.1; omega
    obtain ⟨j1, hj1⟩ : ∃ j1, j1 = 2 * i + 1 := ⟨_, rfl⟩
    have e0 : ¬ 2 * (i : Int) + 1 < 0 := by omega
    have qL : wr.cell? ⟨lb, 0, none⟩ = some (.slice A ss.length c) := M.cell 0 0 rfl
    by_cases h1 : n ≤ j1
    · have h1z : (n : Int) ≤ 2 * (i : Int) + 1 := by omega
      go_wp2_with fail
      go_ret
      obtain ⟨qs, rfl, hp, hq⟩ := HP.out.2.done (fun k h0 hk hk2 => by have := par_two h0 hk2; have := HP.out.1; omega)
      exact ⟨⟨_, rfl⟩, qs, hp, hq, M⟩
    · have h1z : ¬ (n : Int) ≤ 2 * (i : Int) + 1 := by omega
      obtain ⟨j2, hj2⟩ : ∃ j2, j2 = j1 + 1 := ⟨_, rfl⟩
      by_cases h2 : j2 < n
      · have h2z : 2 * (i : Int) + 1 + 1 < (n : Int) := by omega
        go_wp2_with fail
        rw [inv_less _ lb A ss.length c _ qL]
        go_wp2_with fail
        rw [show 2 * (i : Int) + 1 + 1 = (j2 : Int) by omega, show 2 * (i : Int) + 1 = (j1 : Int) by omega]
        apply Calls.mono
        focus with_reducible exact (less_any ss A c j2 j1 (by omega) (by omega) hsm _ (M.rowS 1 rfl))
        rintro r W1 ⟨rfl, g1⟩
        replace M := M.call g1
        clear qL g1
        have qL : W1.cell? ⟨lb, 0, none⟩ = some (.slice A ss.length c) := M.cell 0 0 rfl
        have hb0 : aheadP ss[j2] ss[j1] = aheadP (at3 ss j2) (at3 ss j1) := by rw [at3_get (by omega), at3_get (by omega)]
        rw [hb0]
        clear hb0
        obtain ⟨b1, hb1⟩ : ∃ b1, b1 = aheadP (at3 ss j2) (at3 ss j1) := ⟨_, rfl⟩
        rw [← hb1]
        have HB1 := hide hb1
        clear hb1
        cases b1
        · have HM : Hid (∀ k, 0 < k → k < qs0.length → par k = i → leP (at3 ss j1) (at3 ss k)) := hide (fun k h0 hk hk2 => by
            rcases par_two h0 hk2 with h3 | h3
            · rw [show k = j1 by omega]; exact leP.refl _
            · rw [show k = j2 by omega]; exact HB1.out.symm)
          clear HB1
          go_wp2_with fail
          rw [inv_less _ lb A ss.length c _ qL]
          go_wp2_with fail
          (try rw [show 2 * (i : Int) + 1 + 1 = (j2 : Int) by omega])
          (try rw [show 2 * (i : Int) + 1 = (j1 : Int) by omega])
          apply Calls.mono
          focus with_reducible exact (less_any ss A c j1 i (by omega) (by omega) hsm _ (M.rowS 1 rfl))
          rintro r W2 ⟨rfl, g1⟩
          replace M := M.call g1
          clear qL g1
          have qL : W2.cell? ⟨lb, 0, none⟩ = some (.slice A ss.length c) := M.cell 0 0 rfl
          have hb0 : aheadP ss[j1] ss[i] = aheadP (at3 ss j1) (at3 ss i) := by rw [at3_get (by omega), at3_get (by omega)]
          rw [hb0]
          clear hb0
          obtain ⟨b2, hb2⟩ : ∃ b2, b2 = aheadP (at3 ss j1) (at3 ss i) := ⟨_, rfl⟩
          rw [← hb2]
          have HB2 := hide hb2
          clear hb2
          cases b2
          · go_wp2_with fail
            go_ret
            obtain ⟨qs, rfl, hp, hq⟩ := HP.out.2.done (fun k h0 hk hk2 => leP.trans HB2.out.symm (HM.out k h0 hk hk2))
            exact ⟨⟨_, rfl⟩, qs, hp, hq, M⟩
          · go_wp2_with fail
            rw [inv_swap _ lb A ss.length c _ qL]
            go_wp2_with fail
            (try rw [show 2 * (i : Int) + 1 + 1 = (j2 : Int) by omega])
            (try rw [show 2 * (i : Int) + 1 = (j1 : Int) by omega])
            have hR : (rP ss.length A c ss).here W2 := M.rowAt 1 rfl
            apply Calls.mono
            focus with_reducible exact (swap_any ss A c i j1 (by omega) (by omega) hsm _ hR)
            clear hR
            rintro r W3 ⟨⟨v, rfl⟩, g2⟩
            replace M := M.swapped g2
            clear qL
            go_wp2_with fail
            go_roundw
            · exact ⟨j1, swapL ss i j1, by go_num, by omega, hide ⟨HP.out.1, HP.out.2.swap (by omega) (by have := HP.out.1; omega) (by unfold par; omega) HB2.out.symm HM.out⟩, M⟩
            · simp [intOf]; omega
        · have HM : Hid (∀ k, 0 < k → k < qs0.length → par k = i → leP (at3 ss j2) (at3 ss k)) := hide (fun k h0 hk hk2 => by
            rcases par_two h0 hk2 with h3 | h3
            · rw [show k = j1 by omega]; exact leP.of_ahead HB1.out.symm
            · rw [show k = j2 by omega]; exact leP.refl _)
          clear HB1
          go_wp2_with fail
          rw [inv_less _ lb A ss.length c _ qL]
          go_wp2_with fail
          (try rw [show 2 * (i : Int) + 1 + 1 = (j2 : Int) by omega])
          (try rw [show 2 * (i : Int) + 1 = (j1 : Int) by omega])
          apply Calls.mono
          focus with_reducible exact (less_any ss A c j2 i (by omega) (by omega) hsm _ (M.rowS 1 rfl))
          rintro r W2 ⟨rfl, g1⟩
          replace M := M.call g1
          clear qL g1
          have qL : W2.cell? ⟨lb, 0, none⟩ = some (.slice A ss.length c) := M.cell 0 0 rfl
          have hb0 : aheadP ss[j2] ss[i] = aheadP (at3 ss j2) (at3 ss i) := by rw [at3_get (by omega), at3_get (by omega)]
          rw [hb0]
          clear hb0
          obtain ⟨b2, hb2⟩ : ∃ b2, b2 = aheadP (at3 ss j2) (at3 ss i) := ⟨_, rfl⟩
          rw [← hb2]
          have HB2 := hide hb2
          clear hb2
          cases b2
          · go_wp2_with fail
            go_ret
            obtain ⟨qs, rfl, hp, hq⟩ := HP.out.2.done (fun k h0 hk hk2 => leP.trans HB2.out.symm (HM.out k h0 hk hk2))
            exact ⟨⟨_, rfl⟩, qs, hp, hq, M⟩
          · go_wp2_with fail
            rw [inv_swap _ lb A ss.length c _ qL]
            go_wp2_with fail
            (try rw [show 2 * (i : Int) + 1 + 1 = (j2 : Int) by omega])
            (try rw [show 2 * (i : Int) + 1 = (j1 : Int) by omega])
            have hR : (rP ss.length A c ss).here W2 := M.rowAt 1 rfl
            apply Calls.mono
            focus with_reducible exact (swap_any ss A c i j2 (by omega) (by omega) hsm _ hR)
            clear hR
            rintro r W3 ⟨⟨v, rfl⟩, g2⟩
            replace M := M.swapped g2
            clear qL
            go_wp2_with fail
            go_roundw
            · exact ⟨j2, swapL ss i j2, by go_num, by omega, hide ⟨HP.out.1, HP.out.2.swap (by omega) (by have := HP.out.1; omega) (by unfold par; omega) HB2.out.symm HM.out⟩, M⟩
            · simp [intOf]; omega
      · have h2z : ¬ 2 * (i : Int) + 1 + 1 < (n : Int) := by omega
        have HM : Hid (∀ k, 0 < k → k < qs0.length → par k = i → leP (at3 ss j1) (at3 ss k)) := hide (fun k h0 hk hk2 => by
          have := HP.out.1
          rcases par_two h0 hk2 with h3 | h3
          · rw [show k = j1 by omega]; exact leP.refl _
          · omega)
        go_wp2_with fail
        rw [inv_less _ lb A ss.length c _ qL]
        go_wp2_with fail
        (try rw [show 2 * (i : Int) + 1 + 1 = (j2 : Int) by omega])
        (try rw [show 2 * (i : Int) + 1 = (j1 : Int) by omega])
        apply Calls.mono
        focus with_reducible exact (less_any ss A c j1 i (by omega) (by omega) hsm _ (M.rowS 1 rfl))
        rintro r W2 ⟨rfl, g1⟩
        replace M := M.call g1
        clear qL g1
        have qL : W2.cell? ⟨lb, 0, none⟩ = some (.slice A ss.length c) := M.cell 0 0 rfl
        have hb0 : aheadP ss[j1] ss[i] = aheadP (at3 ss j1) (at3 ss i) := by rw [at3_get (by omega), at3_get (by omega)]
        rw [hb0]
        clear hb0
        obtain ⟨b2, hb2⟩ : ∃ b2, b2 = aheadP (at3 ss j1) (at3 ss i) := ⟨_, rfl⟩
        rw [← hb2]
        have HB2 := hide hb2
        clear hb2
        cases b2
        · go_wp2_with fail
          go_ret
          obtain ⟨qs, rfl, hp, hq⟩ := HP.out.2.done (fun k h0 hk hk2 => leP.trans HB2.out.symm (HM.out k h0 hk hk2))
          exact ⟨⟨_, rfl⟩, qs, hp, hq, M⟩
        · go_wp2_with fail
          rw [inv_swap _ lb A ss.length c _ qL]
          go_wp2_with fail
          (try rw [show 2 * (i : Int) + 1 + 1 = (j2 : Int) by omega])
          (try rw [show 2 * (i : Int) + 1 = (j1 : Int) by omega])
          have hR : (rP ss.length A c ss).here W2 := M.rowAt 1 rfl
          apply Calls.mono
          focus with_reducible exact (swap_any ss A c i j1 (by omega) (by omega) hsm _ hR)
          clear hR
          rintro r W3 ⟨⟨v, rfl⟩, g2⟩
          replace M := M.swapped g2
          clear qL
          go_wp2_with fail
          go_roundw
          · exact ⟨j1, swapL ss i j1, by go_num, by omega, hide ⟨HP.out.1, HP.out.2.swap (by omega) (by have := HP.out.1; omega) (by unfold par; omega) HB2.out.symm HM.out⟩, M⟩
          · simp [intOf]; omega
end Go.Proofs.Ytgncjcnobojgbaa
