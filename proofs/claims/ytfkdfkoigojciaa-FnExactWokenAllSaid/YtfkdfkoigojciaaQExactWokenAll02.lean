/- WokenAll of the model and of the program answer alike. Lists no longer than a million. -/
import Derived.Test.YtfkdfkoigojciaaQExactWokenAll01
import Derived.Test.YtfkdfkoigojciaaQB13

namespace Go.Proofs.Ytfkdfkoigojciaa
open Go.RowKit
set_option linter.unusedVariables false
theorem wakeAll_right {a b c d e : Int} {ks : List Int} {fs : List F2} {v : Int} (hv : btw v 0 9999 = true) : ∀ (L : List Int) (ts : List T7) (tn : Int), poolB a b c d e ts ks fs tn = true → L.Nodup → (∀ j ∈ L, ∃ (k : Nat) (x : T7), j = k ∧ ts[k]? = some x ∧ x.s = 3) → tn + L.length ≤ 1000000 → poolB a b c d e (wakeAllT L ts tn v) ks fs (tn + L.length) = true
 | [], ts, tn, hp, _, _, _ => by simpa [wakeAllT] using hp
 | j :: r, ts, tn, hp, hn, hm, hb => by
  obtain ⟨k, x, rfl, hx, hs⟩ := hm j (List.mem_cons_self ..)
  have h1 := wake_right (v := v) hp hx hs hv (by simp at hb; omega)
  obtain ⟨hn1, hn2⟩ := List.nodup_cons.1 hn
  have h2 := wakeAll_right hv r (ts.set k (wakeT x tn v)) (tn + 1) h1 hn2 (fun i hi => by
   obtain ⟨k2, x2, rfl, hx2, hs2⟩ := hm i (List.mem_cons_of_mem _ hi)
   refine ⟨k2, x2, rfl, ?_, hs2⟩
   rw [List.getElem?_set_ne (by intro e; apply hn1; rw [e]; exact hi)]
   exact hx2) (by simp at hb; omega)
  simp only [wakeAllT, Int.toNat_natCast, taskAt_of hx, List.length_cons]
  rw [show tn + ((r.length + 1 : Nat) : Int) = tn + 1 + (r.length : Int) by omega]
  exact h2
theorem wokenAll_told (a b c d e : Int) (ts : List T7) (ks : List Int) (fs : List F2) (tn : Int) (st : Bool) (wa : Int) (oa : Int) (v0 : Int) (hl : ts.length + ks.length + fs.length ≤ 1048576) :
 ∃ (us : List T7) (ks2 : List Int) (fs2 : List F2) (tn2 : Int) (st2 : Bool) (z : Int), us.length + ks2.length + fs2.length ≤ 1048576 ∧
 (0 ≤ z → us = wakeAllT (waitersM ts wa oa) ts tn v0) ∧
 Hid (∀ (A0 A1 A2 : Option Addr) (c0 c1 c2 : Nat) (w : World), InPool w ts ks fs A0 A1 A2 → Calls Try.prog 15 #[.agg #[.int .i64 a, .int .i64 b, .int .i64 c, .int .i64 d, .int .i64 e], .agg #[.slice A0 ts.length c0, .slice A1 ks.length c1, .slice A2 fs.length c2, .int .i64 tn, .bool st], .int .i64 wa, .int .i64 oa, .int .i64 v0] w (GaveI us ks2 fs2 tn2 st2 z w)) ∧
 Hid (∀ (A0 A1 A2 : Option Addr) (c0 c1 c2 : Nat) (w : World), InPool w ts ks fs A0 A1 A2 → Calls Try.prog 16 #[.agg #[.int .i64 a, .int .i64 b, .int .i64 c, .int .i64 d, .int .i64 e], .agg #[.slice A0 ts.length c0, .slice A1 ks.length c1, .slice A2 fs.length c2, .int .i64 tn, .bool st], .int .i64 wa, .int .i64 oa, .int .i64 v0] w (GaveI us ks2 fs2 tn2 st2 z w)) := by
 have ht : ts.length ≤ 1048576 := by omega
 have hk : ks.length ≤ 1048576 := by omega
 have hf : fs.length ≤ 1048576 := by omega
 cases hp : poolB a b c d e ts ks fs tn
 ·exact ⟨[], [], [], 0, false, -1, by simp, (fun h => by omega), hide (fun A0 A1 A2 c0 c1 c2 w h => sWokenAll_bad a b c d e ts ks fs A0 A1 A2 c0 c1 c2 tn st wa oa v0 w ht hk hf h hp), hide (fun A0 A1 A2 c0 c1 c2 w h => gWokenAll_bad a b c d e ts ks fs A0 A1 A2 c0 c1 c2 tn st wa oa v0 w ht hk hf h hp)⟩
 ·have hT := (poolB_parts hp).2.1
  by_cases hn : (0 : Int) < ((waitersM ts wa oa).length : Int)
  ·cases hv : btw v0 0 9999
   ·have ho : okAll (waitersM ts wa oa) v0 tn = false := by
     have he : (waitersM ts wa oa).isEmpty = false := by
      cases hL : (waitersM ts wa oa) with
      | nil => rw [hL] at hn; simp at hn
      | cons i r => rfl
     simp only [okAll, he, hv, Bool.false_and, Bool.or_false]
    exact ⟨ts, ks, fs, tn, st, -1, hl, (fun h => by omega), hide (fun A0 A1 A2 c0 c1 c2 w h => sWokenAll_no a b c d e ts ks fs A0 A1 A2 c0 c1 c2 tn st wa oa v0 w ht hk hf h hp hn hv), hide (fun A0 A1 A2 c0 c1 c2 w h => gWokenAll_no a b c d e ts ks fs A0 A1 A2 c0 c1 c2 tn st wa oa v0 w ht hk hf h hp ho)⟩
   ·by_cases hb : tn + ((waitersM ts wa oa).length : Int) ≤ 1000000
    ·have hz := wakeAll_right hv (waitersM ts wa oa) ts tn hp (waitersM_nodup ts wa oa) (fun j hj => by
      obtain ⟨k, x, h1, _, h2, h3, _⟩ := waitersM_mem hj
      exact ⟨k, x, h1, h2, h3⟩) hb
     have ho : okAll (waitersM ts wa oa) v0 tn = true := by simp [okAll, hv, hb]
     exact ⟨wakeAllT (waitersM ts wa oa) ts tn v0, ks, fs, tn + ((waitersM ts wa oa).length : Int), st, ((waitersM ts wa oa).length : Int), by rw [wakeAllT_length]; exact hl, (fun _ => rfl), hide (fun A0 A1 A2 c0 c1 c2 w h => sWokenAll_some_yes a b c d e ts ks fs A0 A1 A2 c0 c1 c2 tn st wa oa v0 w ht hk hf h hp hn hv hz), hide (fun A0 A1 A2 c0 c1 c2 w h => gWokenAll_yes a b c d e ts ks fs A0 A1 A2 c0 c1 c2 tn st wa oa v0 w ht hk hf h hp ho)⟩
    ·have hz : poolB a b c d e (wakeAllT (waitersM ts wa oa) ts tn v0) ks fs (tn + ((waitersM ts wa oa).length : Int)) = false := turn_over hb
     have ho : okAll (waitersM ts wa oa) v0 tn = false := by
      have he : (waitersM ts wa oa).isEmpty = false := by
       cases hL : (waitersM ts wa oa) with
       | nil => rw [hL] at hn; simp at hn
       | cons i r => rfl
      simp only [okAll, he, hv, Bool.false_or, Bool.true_and, decide_eq_false hb]
     exact ⟨ts, ks, fs, tn, st, -1, hl, (fun h => by omega), hide (fun A0 A1 A2 c0 c1 c2 w h => sWokenAll_some_full a b c d e ts ks fs A0 A1 A2 c0 c1 c2 tn st wa oa v0 w ht hk hf h hp hn hv hz), hide (fun A0 A1 A2 c0 c1 c2 w h => gWokenAll_no a b c d e ts ks fs A0 A1 A2 c0 c1 c2 tn st wa oa v0 w ht hk hf h hp ho)⟩
  ·have hL : (waitersM ts wa oa) = [] := List.length_eq_zero_iff.1 (by omega)
   have hz : poolB a b c d e (wakeAllT (waitersM ts wa oa) ts tn v0) ks fs (tn + ((waitersM ts wa oa).length : Int)) = true := by rw [hL]; simpa [wakeAllT] using hp
   have ho : okAll (waitersM ts wa oa) v0 tn = true := by simp [okAll, hL]
   exact ⟨wakeAllT (waitersM ts wa oa) ts tn v0, ks, fs, tn + ((waitersM ts wa oa).length : Int), st, ((waitersM ts wa oa).length : Int), by rw [wakeAllT_length]; exact hl, (fun _ => rfl), hide (fun A0 A1 A2 c0 c1 c2 w h => sWokenAll_none_yes a b c d e ts ks fs A0 A1 A2 c0 c1 c2 tn st wa oa v0 w ht hk hf h hp hn hz), hide (fun A0 A1 A2 c0 c1 c2 w h => gWokenAll_yes a b c d e ts ks fs A0 A1 A2 c0 c1 c2 tn st wa oa v0 w ht hk hf h hp ho)⟩
theorem wokenAll_both (a b c d e : Int) (ts : List T7) (ks : List Int) (fs : List F2) (tn : Int) (st : Bool) (wa : Int) (oa : Int) (v0 : Int) (hl : ts.length + ks.length + fs.length ≤ 1048576) :
 ∃ (us : List T7) (ks2 : List Int) (fs2 : List F2) (tn2 : Int) (st2 : Bool) (z : Int), us.length + ks2.length + fs2.length ≤ 1048576 ∧
 Hid (∀ (A0 A1 A2 : Option Addr) (c0 c1 c2 : Nat) (w : World), InPool w ts ks fs A0 A1 A2 → Calls Try.prog 15 #[.agg #[.int .i64 a, .int .i64 b, .int .i64 c, .int .i64 d, .int .i64 e], .agg #[.slice A0 ts.length c0, .slice A1 ks.length c1, .slice A2 fs.length c2, .int .i64 tn, .bool st], .int .i64 wa, .int .i64 oa, .int .i64 v0] w (GaveI us ks2 fs2 tn2 st2 z w)) ∧
 Hid (∀ (A0 A1 A2 : Option Addr) (c0 c1 c2 : Nat) (w : World), InPool w ts ks fs A0 A1 A2 → Calls Try.prog 16 #[.agg #[.int .i64 a, .int .i64 b, .int .i64 c, .int .i64 d, .int .i64 e], .agg #[.slice A0 ts.length c0, .slice A1 ks.length c1, .slice A2 fs.length c2, .int .i64 tn, .bool st], .int .i64 wa, .int .i64 oa, .int .i64 v0] w (GaveI us ks2 fs2 tn2 st2 z w)) := by
 obtain ⟨us, ks2, fs2, tn2, st2, z, h0, _, h1, h2⟩ := wokenAll_told a b c d e ts ks fs tn st wa oa v0 hl
 exact ⟨us, ks2, fs2, tn2, st2, z, h0, h1, h2⟩
end Go.Proofs.Ytfkdfkoigojciaa
