/- Woken and ParkedBy of the model and of the program answer alike. Lists no longer than a million. -/
import Derived.Test.YtgbckcidmojnoaaGWoken
import Derived.Test.YtgbckcidmojnoaaWakeR
namespace Go.Proofs.Ytgbckcidmojnoaa
open Go.RowKit
set_option linter.unusedVariables false

theorem woken_both (a b c d e : Int) (ts : List T7) (ks : List Int) (fs : List F2) (tn : Int) (st : Bool) (id : Int) (v0 : Int) (hl : ts.length + ks.length + fs.length ≤ 1048576) :
    ∃ (us : List T7) (ks2 : List Int) (fs2 : List F2) (tn2 : Int) (st2 z : Bool), us.length + ks2.length + fs2.length ≤ 1048576 ∧
    Hid (∀ (A0 A1 A2 : Option Addr) (c0 c1 c2 : Nat) (w : World), InPool w ts ks fs A0 A1 A2 → Calls Try.prog 39 #[.agg #[.int .i64 a, .int .i64 b, .int .i64 c, .int .i64 d, .int .i64 e], .agg #[.slice A0 ts.length c0, .slice A1 ks.length c1, .slice A2 fs.length c2, .int .i64 tn, .bool st], .int .i64 id, .int .i64 v0] w (GaveP us ks2 fs2 tn2 st2 z w)) ∧
    Hid (∀ (A0 A1 A2 : Option Addr) (c0 c1 c2 : Nat) (w : World), InPool w ts ks fs A0 A1 A2 → Calls Try.prog 41 #[.agg #[.int .i64 a, .int .i64 b, .int .i64 c, .int .i64 d, .int .i64 e], .agg #[.slice A0 ts.length c0, .slice A1 ks.length c1, .slice A2 fs.length c2, .int .i64 tn, .bool st], .int .i64 id, .int .i64 v0] w (GaveP us ks2 fs2 tn2 st2 z w)) := by
  have ht : ts.length ≤ 1048576 := by omega
  have hk : ks.length ≤ 1048576 := by omega
  have hf : fs.length ≤ 1048576 := by omega
  cases hp : poolB a b c d e ts ks fs tn
  · exact ⟨[], [], [], 0, false, false, by simp, hide (fun A0 A1 A2 c0 c1 c2 w h => sWoken_bad a b c d e ts ks fs A0 A1 A2 c0 c1 c2 tn st id v0 w ht hk hf h hp), hide (fun A0 A1 A2 c0 c1 c2 w h => gWoken_bad a b c d e ts ks fs A0 A1 A2 c0 c1 c2 tn st id v0 w ht hk hf h hp)⟩
  · cases hc : canB ts id v0 tn
    · refine ⟨ts, ks, fs, tn, st, false, hl, ?_, hide (fun A0 A1 A2 c0 c1 c2 w h => gWoken_no a b c d e ts ks fs A0 A1 A2 c0 c1 c2 tn st id v0 w ht hk hf h hp hc)⟩
      cases hb : btw id 0 ((ts.length : Int) - 1)
      · exact hide (fun A0 A1 A2 c0 c1 c2 w h => sWoken_no1 a b c d e ts ks fs A0 A1 A2 c0 c1 c2 tn st id v0 w ht hk hf h hp hb)
      · obtain ⟨k, rfl⟩ : ∃ k : Nat, id = k := ⟨id.toNat, by simp [btw] at hb; omega⟩
        have hkl : k < ts.length := by simp [btw] at hb; omega
        obtain ⟨⟨s, l, o1, wt, on, v, t⟩, hts⟩ : ∃ x, ts[k]? = some x := ⟨_, List.getElem?_eq_getElem hkl⟩
        by_cases hs : s = 3
        · cases hv : btw v0 0 9999
          · exact hide (fun A0 A1 A2 c0 c1 c2 w h => sWoken_no3 a b c d e ts ks fs A0 A1 A2 c0 c1 c2 tn st k v0 w ht hk hf h hp k s l o1 wt on v t rfl hts hb hs hv)
          · have hz : poolB a b c d e (ts.set k (wakeT ⟨s, l, o1, wt, on, v, t⟩ tn v0)) ks fs (tn + 1) = false := by
              refine turn_over ?_
              have h1 := hc
              rw [canB, isInB_of hts, hv] at h1
              simp [hs] at h1
              omega
            exact hide (fun A0 A1 A2 c0 c1 c2 w h => sWoken_full a b c d e ts ks fs A0 A1 A2 c0 c1 c2 tn st k v0 w ht hk hf h hp k s l o1 wt on v t rfl hts hb hs hv hz)
        · exact hide (fun A0 A1 A2 c0 c1 c2 w h => sWoken_no2 a b c d e ts ks fs A0 A1 A2 c0 c1 c2 tn st k v0 w ht hk hf h hp k s l o1 wt on v t rfl hts hb hs)
    · have hc2 := hc
      simp only [canB, Bool.and_eq_true, decide_eq_true_eq] at hc2
      obtain ⟨k, ⟨s, l, o1, wt, on, v, t⟩, rfl, hkl, hts, hs⟩ := isInB_nat hc2.1
      have hb : btw (k : Int) 0 ((ts.length : Int) - 1) = true := by simp [btw]; omega
      have hz := wake_right (v := v0) hp hts hs hc2.2.1 hc2.2.2
      exact ⟨ts.set k (wakeT ⟨s, l, o1, wt, on, v, t⟩ tn v0), ks, fs, tn + 1, st, true, by simpa using hl, hide (fun A0 A1 A2 c0 c1 c2 w h => sWoken_yes a b c d e ts ks fs A0 A1 A2 c0 c1 c2 tn st k v0 w ht hk hf h hp k s l o1 wt on v t rfl hts hb hs hc2.2.1 hz), hide (fun A0 A1 A2 c0 c1 c2 w h => gWoken_yes a b c d e ts ks fs A0 A1 A2 c0 c1 c2 tn st k v0 w ht hk hf h hp k s l o1 wt on v t rfl hts hc)⟩

theorem parked_both (a b c d e : Int) (ts : List T7) (ks : List Int) (fs : List F2) (tn : Int) (st : Bool) (id : Int) (pw : Int) (po : Int) (hl : ts.length + ks.length + fs.length ≤ 1048576) :
    ∃ (us : List T7) (ks2 : List Int) (fs2 : List F2) (tn2 : Int) (st2 z : Bool), us.length + ks2.length + fs2.length ≤ 1048576 ∧
    Hid (∀ (A0 A1 A2 : Option Addr) (c0 c1 c2 : Nat) (w : World), InPool w ts ks fs A0 A1 A2 → Calls Try.prog 45 #[.agg #[.int .i64 a, .int .i64 b, .int .i64 c, .int .i64 d, .int .i64 e], .agg #[.slice A0 ts.length c0, .slice A1 ks.length c1, .slice A2 fs.length c2, .int .i64 tn, .bool st], .int .i64 id, .int .i64 pw, .int .i64 po] w (GaveP us ks2 fs2 tn2 st2 z w)) ∧
    Hid (∀ (A0 A1 A2 : Option Addr) (c0 c1 c2 : Nat) (w : World), InPool w ts ks fs A0 A1 A2 → Calls Try.prog 46 #[.agg #[.int .i64 a, .int .i64 b, .int .i64 c, .int .i64 d, .int .i64 e], .agg #[.slice A0 ts.length c0, .slice A1 ks.length c1, .slice A2 fs.length c2, .int .i64 tn, .bool st], .int .i64 id, .int .i64 pw, .int .i64 po] w (GaveP us ks2 fs2 tn2 st2 z w)) := by
  have ht : ts.length ≤ 1048576 := by omega
  have hk : ks.length ≤ 1048576 := by omega
  have hf : fs.length ≤ 1048576 := by omega
  cases hp : poolB a b c d e ts ks fs tn
  · exact ⟨[], [], [], 0, false, false, by simp, hide (fun A0 A1 A2 c0 c1 c2 w h => sParkedBy_bad a b c d e ts ks fs A0 A1 A2 c0 c1 c2 tn st id pw po w ht hk hf h hp), hide (fun A0 A1 A2 c0 c1 c2 w h => gParkedBy_bad a b c d e ts ks fs A0 A1 A2 c0 c1 c2 tn st id pw po w ht hk hf h hp)⟩
  · cases hc : isInB ts id 2
    · refine ⟨ts, ks, fs, tn, st, false, hl, ?_, hide (fun A0 A1 A2 c0 c1 c2 w h => gParkedBy_no a b c d e ts ks fs A0 A1 A2 c0 c1 c2 tn st id pw po w ht hk hf h hp hc)⟩
      cases hb : btw id 0 ((ts.length : Int) - 1)
      · exact hide (fun A0 A1 A2 c0 c1 c2 w h => sParkedBy_no1 a b c d e ts ks fs A0 A1 A2 c0 c1 c2 tn st id pw po w ht hk hf h hp hb)
      · obtain ⟨k, rfl⟩ : ∃ k : Nat, id = k := ⟨id.toNat, by simp [btw] at hb; omega⟩
        have hkl : k < ts.length := by simp [btw] at hb; omega
        obtain ⟨⟨s, l, o1, wt, on, v, t⟩, hts⟩ : ∃ x, ts[k]? = some x := ⟨_, List.getElem?_eq_getElem hkl⟩
        have hs : ¬ s = 2 := by
          have h1 := hc
          rw [isInB_of hts] at h1
          simpa using h1
        exact hide (fun A0 A1 A2 c0 c1 c2 w h => sParkedBy_no2 a b c d e ts ks fs A0 A1 A2 c0 c1 c2 tn st k pw po w ht hk hf h hp k s l o1 wt on v t rfl hts hb hs)
    · obtain ⟨k, ⟨s, l, o1, wt, on, v, t⟩, rfl, hkl, hts, hs⟩ := isInB_nat hc
      have hb : btw (k : Int) 0 ((ts.length : Int) - 1) = true := by simp [btw]; omega
      cases hz : poolB a b c d e (ts.set k (parkT ⟨s, l, o1, wt, on, v, t⟩ tn pw po)) ks fs (tn + 1)
      · exact ⟨ts, ks, fs, tn, st, false, hl, hide (fun A0 A1 A2 c0 c1 c2 w h => sParkedBy_full a b c d e ts ks fs A0 A1 A2 c0 c1 c2 tn st k pw po w ht hk hf h hp k s l o1 wt on v t rfl hts hb hs hz), hide (fun A0 A1 A2 c0 c1 c2 w h => gParkedBy_full a b c d e ts ks fs A0 A1 A2 c0 c1 c2 tn st k pw po w ht hk hf h hp k s l o1 wt on v t rfl hts hc hz)⟩
      · exact ⟨ts.set k (parkT ⟨s, l, o1, wt, on, v, t⟩ tn pw po), ks, fs, tn + 1, st, true, by simpa using hl, hide (fun A0 A1 A2 c0 c1 c2 w h => sParkedBy_yes a b c d e ts ks fs A0 A1 A2 c0 c1 c2 tn st k pw po w ht hk hf h hp k s l o1 wt on v t rfl hts hb hs hz), hide (fun A0 A1 A2 c0 c1 c2 w h => gParkedBy_yes a b c d e ts ks fs A0 A1 A2 c0 c1 c2 tn st k pw po w ht hk hf h hp k s l o1 wt on v t rfl hts hc hz)⟩
end Go.Proofs.Ytgbckcidmojnoaa
