/- The program's line behind a pointer: container/heap's down over it. The list of places no longer than a million. -/
import Derived.Test.YtgncjcnobojgbaaPHeapUp
namespace Go.Proofs.Ytgncjcnobojgbaa
open Go.RowKit
set_option linter.unusedVariables false

/-- All but the last one of rs are those of qs0, a heap but for number i; the last one is x. -/
def DnR (qs0 : List P3) (x : P3) (i : Nat) (rs : List P3) : Prop := ∃ qs : List P3, rs = qs ++ [x] ∧ qs.Perm qs0 ∧ HeapDn qs i
theorem at3_app {qs : List P3} {x : P3} {k : Nat} (h : k < qs.length) : at3 (qs ++ [x]) k = at3 qs k := by
  unfold at3; rw [getD3 (by simp; omega), getD3 h, List.getElem_append_left h]
theorem DnR.len {qs0 : List P3} {x : P3} {i : Nat} {rs : List P3} (h : DnR qs0 x i rs) : rs.length = qs0.length + 1 := by
  obtain ⟨qs, rfl, hp, _⟩ := h
  simp [hp.length_eq]
theorem DnR.done {qs0 : List P3} {x : P3} {i : Nat} {rs : List P3} (h : DnR qs0 x i rs) (hi : ∀ k, 0 < k → k < qs0.length → par k = i → leP (at3 rs i) (at3 rs k)) : ∃ qs, rs = qs ++ [x] ∧ qs.Perm qs0 ∧ HeapL qs := by
  obtain ⟨qs, rfl, hp, hd⟩ := h
  refine ⟨qs, rfl, hp, hd.done fun k h0 hk hk2 => ?_⟩
  have h1 := hi k h0 (by rw [← hp.length_eq]; exact hk) hk2
  have := par_lt h0
  rwa [at3_app hk, at3_app (by omega)] at h1
theorem DnR.swap {qs0 : List P3} {x : P3} {i j : Nat} {rs : List P3} (h : DnR qs0 x i rs) (h0 : 0 < j) (hj : j < qs0.length) (hp : par j = i) (ha : aheadP (at3 rs j) (at3 rs i) = true)
    (hm : ∀ k, 0 < k → k < qs0.length → par k = i → leP (at3 rs j) (at3 rs k)) : DnR qs0 x j (swapL rs i j) := by
  obtain ⟨qs, rfl, hpm, hd⟩ := h
  have hl := hpm.length_eq
  have h1 := par_lt h0
  rw [at3_app (by omega), at3_app (by omega)] at ha
  refine ⟨swapL qs i j, swapL_append (by omega) (by omega) _, (swapL_perm (by omega) (by omega)).trans hpm, hd.swap h0 (by omega) hp ha fun k h0 hk hk2 => ?_⟩
  have h3 := hm k h0 (by omega) hk2
  rwa [at3_app (by omega), at3_app hk] at h3
theorem at3_get {rs : List P3} {k : Nat} (h : k < rs.length) : at3 rs k = rs[k] := getD3 h
theorem par_two {k i : Nat} (h0 : 0 < k) (h : par k = i) : k = 2 * i + 1 ∨ k = 2 * i + 2 := by unfold par at h; omega

set_option maxRecDepth 100000 in
set_option maxHeartbeats 2000000 in
theorem down_any (qs0 : List P3) (x : P3) (rs : List P3) (lb : Nat) (A : Option Addr) (c n : Nat) (hn : n = qs0.length) (hl : rs.length ≤ 1048576) (w : World) (hh : DnR qs0 x 0 rs) (h : LineIn w lb A c rs) :
    Calls Try.prog 166 #[lineV lb, .int .i64 0, .int .i64 n] w fun r w' => (∃ v, r = .returned v) ∧ ∃ qs : List P3, qs.Perm qs0 ∧ HeapL qs ∧ Sep (fps (lineL lb A c rs)) w w' (lineL lb A c (qs ++ [x])) := by
  unfold lineV
  have hnl : n < rs.length := by rw [hh.len]; omega
  have H := hide (⟨hh, h, hn⟩ : _ ∧ _ ∧ _)
  clear hh h hn
  go_enter Try.func166, Try.ntmps166
  go_wp2_with fail
  go_loopw [7] (fun i wr => ∃ (i' : Nat) (ss : List P3), i = .int .i64 i' ∧ i' ≤ n ∧ Hid (n = qs0.length ∧ DnR qs0 x i' ss) ∧ Sep (fps (lineL lb A c rs)) w wr (lineL lb A c ss)) (fun i _ => (n - (intOf i).toNat : Nat))
  case atStart => exact ⟨0, rs, rfl, Nat.zero_le _, hide ⟨H.out.2.2, H.out.1⟩, H.out.2.1⟩
  case round =>
    have hnm : n < 1048576 := by omega
    clear H hnl
    obtain ⟨i, ss, rfl, hi, HP, M⟩ := hrel
    have hsl : n < ss.length := by rw [HP.out.2.len, HP.out.1]; omega
    have hsm : ss.length ≤ 1048576 := by have h1 := HP.out.2.len; have h2 := HP.out.1; omega
    obtain ⟨j1, hj1⟩ : ∃ j1, j1 = 2 * i + 1 := ⟨_, rfl⟩
    have e0 : ¬ 2 * (i : Int) + 1 < 0 := by omega
    have qL : wr.cell? ⟨lb, 0, none⟩ = some (.slice A ss.length c) := M.cell 0 0 rfl
    by_cases h1 : n ≤ j1
    · have h1z : (n : Int) ≤ 2 * (i : Int) + 1 := by omega
      go_wp2_with fail
      go_ret
      obtain ⟨qs, rfl, hp, hq⟩ := HP.out.2.done (fun k h0 hk hk2 => by have := par_two h0 hk2; have := HP.out.1; omega)
      exact ⟨⟨_, rfl⟩, qs, hp, hq, M⟩
    · have h1z : ¬ (n : Int) ≤ 2 * (i : Int) + 1 := by omega
      obtain ⟨j2, hj2⟩ : ∃ j2, j2 = j1 + 1 := ⟨_, rfl⟩
      by_cases h2 : j2 < n
      · have h2z : 2 * (i : Int) + 1 + 1 < (n : Int) := by omega
        go_wp2_with fail
        rw [inv_less _ lb A ss.length c _ qL]
        go_wp2_with fail
        rw [show 2 * (i : Int) + 1 + 1 = (j2 : Int) by omega, show 2 * (i : Int) + 1 = (j1 : Int) by omega]
        apply Calls.mono
        focus with_reducible exact (less_any ss A c j2 j1 (by omega) (by omega) hsm _ (M.rowS 1 rfl))
        rintro r W1 ⟨rfl, g1⟩
        replace M := M.call g1
        clear qL g1
        have qL : W1.cell? ⟨lb, 0, none⟩ = some (.slice A ss.length c) := M.cell 0 0 rfl
        have hb0 : aheadP ss[j2] ss[j1] = aheadP (at3 ss j2) (at3 ss j1) := by rw [at3_get (by omega), at3_get (by omega)]
        rw [hb0]
        clear hb0
        obtain ⟨b1, hb1⟩ : ∃ b1, b1 = aheadP (at3 ss j2) (at3 ss j1) := ⟨_, rfl⟩
        rw [← hb1]
        have HB1 := hide hb1
        clear hb1
        cases b1
        · have HM : Hid (∀ k, 0 < k → k < qs0.length → par k = i → leP (at3 ss j1) (at3 ss k)) := hide (fun k h0 hk hk2 => by
            rcases par_two h0 hk2 with h3 | h3
            · rw [show k = j1 by omega]; exact leP.refl _
            · rw [show k = j2 by omega]; exact HB1.out.symm)
          clear HB1
          go_wp2_with fail
          rw [inv_less _ lb A ss.length c _ qL]
          go_wp2_with fail
          (try rw [show 2 * (i : Int) + 1 + 1 = (j2 : Int) by omega])
          (try rw [show 2 * (i : Int) + 1 = (j1 : Int) by omega])
          apply Calls.mono
          focus with_reducible exact (less_any ss A c j1 i (by omega) (by omega) hsm _ (M.rowS 1 rfl))
          rintro r W2 ⟨rfl, g1⟩
          replace M := M.call g1
          clear qL g1
          have qL : W2.cell? ⟨lb, 0, none⟩ = some (.slice A ss.length c) := M.cell 0 0 rfl
          have hb0 : aheadP ss[j1] ss[i] = aheadP (at3 ss j1) (at3 ss i) := by rw [at3_get (by omega), at3_get (by omega)]
          rw [hb0]
          clear hb0
          obtain ⟨b2, hb2⟩ : ∃ b2, b2 = aheadP (at3 ss j1) (at3 ss i) := ⟨_, rfl⟩
          rw [← hb2]
          have HB2 := hide hb2
          clear hb2
          cases b2
          · go_wp2_with fail
            go_ret
            obtain ⟨qs, rfl, hp, hq⟩ := HP.out.2.done (fun k h0 hk hk2 => leP.trans HB2.out.symm (HM.out k h0 hk hk2))
            exact ⟨⟨_, rfl⟩, qs, hp, hq, M⟩
          · go_wp2_with fail
            rw [inv_swap _ lb A ss.length c _ qL]
            go_wp2_with fail
            (try rw [show 2 * (i : Int) + 1 + 1 = (j2 : Int) by omega])
            (try rw [show 2 * (i : Int) + 1 = (j1 : Int) by omega])
            have hR : (rP ss.length A c ss).here W2 := M.rowAt 1 rfl
            apply Calls.mono
            focus with_reducible exact (swap_any ss A c i j1 (by omega) (by omega) hsm _ hR)
            clear hR
            rintro r W3 ⟨⟨v, rfl⟩, g2⟩
            replace M := M.swapped g2
            clear qL
            go_wp2_with fail
            go_roundw
            · exact ⟨j1, swapL ss i j1, by go_num, by omega, hide ⟨HP.out.1, HP.out.2.swap (by omega) (by have := HP.out.1; omega) (by unfold par; omega) HB2.out.symm HM.out⟩, M⟩
            · simp [intOf]; omega
        · have HM : Hid (∀ k, 0 < k → k < qs0.length → par k = i → leP (at3 ss j2) (at3 ss k)) := hide (fun k h0 hk hk2 => by
            rcases par_two h0 hk2 with h3 | h3
            · rw [show k = j1 by omega]; exact leP.of_ahead HB1.out.symm
            · rw [show k = j2 by omega]; exact leP.refl _)
          clear HB1
          go_wp2_with fail
          rw [inv_less _ lb A ss.length c _ qL]
          go_wp2_with fail
          (try rw [show 2 * (i : Int) + 1 + 1 = (j2 : Int) by omega])
          (try rw [show 2 * (i : Int) + 1 = (j1 : Int) by omega])
          apply Calls.mono
          focus with_reducible exact (less_any ss A c j2 i (by omega) (by omega) hsm _ (M.rowS 1 rfl))
          rintro r W2 ⟨rfl, g1⟩
          replace M := M.call g1
          clear qL g1
          have qL : W2.cell? ⟨lb, 0, none⟩ = some (.slice A ss.length c) := M.cell 0 0 rfl
          have hb0 : aheadP ss[j2] ss[i] = aheadP (at3 ss j2) (at3 ss i) := by rw [at3_get (by omega), at3_get (by omega)]
          rw [hb0]
          clear hb0
          obtain ⟨b2, hb2⟩ : ∃ b2, b2 = aheadP (at3 ss j2) (at3 ss i) := ⟨_, rfl⟩
          rw [← hb2]
          have HB2 := hide hb2
          clear hb2
          cases b2
          · go_wp2_with fail
            go_ret
            obtain ⟨qs, rfl, hp, hq⟩ := HP.out.2.done (fun k h0 hk hk2 => leP.trans HB2.out.symm (HM.out k h0 hk hk2))
            exact ⟨⟨_, rfl⟩, qs, hp, hq, M⟩
          · go_wp2_with fail
            rw [inv_swap _ lb A ss.length c _ qL]
            go_wp2_with fail
            (try rw [show 2 * (i : Int) + 1 + 1 = (j2 : Int) by omega])
            (try rw [show 2 * (i : Int) + 1 = (j1 : Int) by omega])
            have hR : (rP ss.length A c ss).here W2 := M.rowAt 1 rfl
            apply Calls.mono
            focus with_reducible exact (swap_any ss A c i j2 (by omega) (by omega) hsm _ hR)
            clear hR
            rintro r W3 ⟨⟨v, rfl⟩, g2⟩
            replace M := M.swapped g2
            clear qL
            go_wp2_with fail
            go_roundw
            · exact ⟨j2, swapL ss i j2, by go_num, by omega, hide ⟨HP.out.1, HP.out.2.swap (by omega) (by have := HP.out.1; omega) (by unfold par; omega) HB2.out.symm HM.out⟩, M⟩
            · simp [intOf]; omega
      · have h2z : ¬ 2 * (i : Int) + 1 + 1 < (n : Int) := by omega
        have HM : Hid (∀ k, 0 < k → k < qs0.length → par k = i → leP (at3 ss j1) (at3 ss k)) := hide (fun k h0 hk hk2 => by
          have := HP.out.1
          rcases par_two h0 hk2 with h3 | h3
          · rw [show k = j1 by omega]; exact leP.refl _
          · omega)
        go_wp2_with fail
        rw [inv_less _ lb A ss.length c _ qL]
        go_wp2_with fail
        (try rw [show 2 * (i : Int) + 1 + 1 = (j2 : Int) by omega])
        (try rw [show 2 * (i : Int) + 1 = (j1 : Int) by omega])
        apply Calls.mono
        focus with_reducible exact (less_any ss A c j1 i (by omega) (by omega) hsm _ (M.rowS 1 rfl))
        rintro r W2 ⟨rfl, g1⟩
        replace M := M.call g1
        clear qL g1
        have qL : W2.cell? ⟨lb, 0, none⟩ = some (.slice A ss.length c) := M.cell 0 0 rfl
        have hb0 : aheadP ss[j1] ss[i] = aheadP (at3 ss j1) (at3 ss i) := by rw [at3_get (by omega), at3_get (by omega)]
        rw [hb0]
        clear hb0
        obtain ⟨b2, hb2⟩ : ∃ b2, b2 = aheadP (at3 ss j1) (at3 ss i) := ⟨_, rfl⟩
        rw [← hb2]
        have HB2 := hide hb2
        clear hb2
        cases b2
        · go_wp2_with fail
          go_ret
          obtain ⟨qs, rfl, hp, hq⟩ := HP.out.2.done (fun k h0 hk hk2 => leP.trans HB2.out.symm (HM.out k h0 hk hk2))
          exact ⟨⟨_, rfl⟩, qs, hp, hq, M⟩
        · go_wp2_with fail
          rw [inv_swap _ lb A ss.length c _ qL]
          go_wp2_with fail
          (try rw [show 2 * (i : Int) + 1 + 1 = (j2 : Int) by omega])
          (try rw [show 2 * (i : Int) + 1 = (j1 : Int) by omega])
          have hR : (rP ss.length A c ss).here W2 := M.rowAt 1 rfl
          apply Calls.mono
          focus with_reducible exact (swap_any ss A c i j1 (by omega) (by omega) hsm _ hR)
          clear hR
          rintro r W3 ⟨⟨v, rfl⟩, g2⟩
          replace M := M.swapped g2
          clear qL
          go_wp2_with fail
          go_roundw
          · exact ⟨j1, swapL ss i j1, by go_num, by omega, hide ⟨HP.out.1, HP.out.2.swap (by omega) (by have := HP.out.1; omega) (by unfold par; omega) HB2.out.symm HM.out⟩, M⟩
          · simp [intOf]; omega
end Go.Proofs.Ytgncjcnobojgbaa
