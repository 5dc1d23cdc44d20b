/- RunBy and CountOf of program and model: the first running task of an owner; how many are in a state; what was in memory stays as it was. No condition but that the list is no longer than what a machine holds. -/
import Derived.Test.YtgncjcnobojgbaaQFnLines02
import Derived.Test.YtgncjcnobojgbaaQFnLines03

namespace Go.Proofs.Ytgncjcnobojgbaa
open Go.RowKit

def runM : List T7 → Int → Int → Int
  | [], _, _ => -1
  | t :: r, w, i => if t.s = 2 ∧ t.o = w then i else runM r w (i + 1)
def countM : List T7 → Int → Nat
  | [], _ => 0
  | t :: r, s => if t.s = s then countM r s + 1 else countM r s
theorem countM_le (ts : List T7) (s : Int) : countM ts s ≤ ts.length := by
  induction ts with
  | nil => simp [countM]
  | cons t r ih => simp only [countM, List.length_cons]; split <;> omega
theorem countM_take (ts : List T7) (s : Int) (k : Nat) : countM (ts.take k) s + countM (ts.drop k) s = countM ts s := by
  induction ts generalizing k with
  | nil => simp [countM]
  | cons t r ih =>
    cases k with
    | zero => simp [countM]
    | succ k => simp only [List.take_succ_cons, List.drop_succ_cons, countM]; have := ih k; split <;> omega
set_option maxHeartbeats 1000000 in
theorem sRunBy_any (ts : List T7) (A0 A1 A2 : Option Addr) (c0 n1 c1 n2 c2 : Nat) (tn : Int) (st : Bool) (wk : Int) (w : World) (hlen : ts.length ≤ 1048576) (h0 : Row w A0 (tcells ts)) :
    Calls Try.prog 18 #[.agg #[.slice A0 ts.length c0, .slice A1 n1 c1, .slice A2 n2 c2, .int .i64 tn, .bool st], .int .i64 wk] w fun r w' => r = .returned (.int .i64 (runM ts wk 0)) ∧ Below w.heap.size w w' := by
  have H0 := hide h0
  clear h0
  go_enter Try.func18, Try.ntmps18
  go_wp2
  go_loopw [5] (fun i wr => ∃ (k : Nat), k ≤ ts.length ∧ i = .int .i64 k ∧ runM ts wk 0 = runM (ts.drop k) wk k ∧ Below w.heap.size w wr ∧ Blk wr w.heap.size 34 #[.slice A0 ts.length c0, .slice A1 n1 c1, .slice A2 n2 c2, .int .i64 tn, .bool st]) (fun i _ => ts.length - (intOf i).toNat)
  case atStart => exact ⟨0, Nat.zero_le _, rfl, rfl, by go_grown, Blk.new _ _ _⟩
  case round =>
    obtain ⟨k, hk, rfl, hm, hbel, hblk⟩ := hrel
    have hsz := hbel.size
    have d0 : wr.cell? ⟨w.heap.size, 0, none⟩ = some (.slice A0 ts.length c0) := hblk.cell 0
    have Hm := hide hm
    clear hm
    by_cases hlt : k < ts.length
    · obtain ⟨b, off, s, l, o, wt, on, v, t, rfl, hd, _, _, z0, z1, z2, z3, z4, z5, z6⟩ := (H0.out.below hbel).ts_at hlt
      have Hd := hide hd
      clear hd
      by_cases h1 : s = 2
      · by_cases h2 : o = wk
        · go_wp2
          go_ret
          refine ⟨?_, by go_grown⟩
          rw [Hm.out, Hd.out]; simp [runM, h1, h2]
        · go_wp2
          go_roundw
          case rel => exact ⟨k + 1, by omega, by go_num, by rw [Hm.out, Hd.out]; simp [runM, h1, h2], by go_grown, hblk⟩
          case measure => simp [intOf]; omega
      · go_wp2
        go_roundw
        case rel => exact ⟨k + 1, by omega, by go_num, by rw [Hm.out, Hd.out]; simp [runM, h1], by go_grown, hblk⟩
        case measure => simp [intOf]; omega
    · go_wp2
      go_ret
      obtain rfl : k = ts.length := by omega
      refine ⟨?_, by go_grown⟩
      rw [Hm.out]; simp [runM]

set_option maxHeartbeats 1000000 in
theorem countOf_any (ts : List T7) (A0 A1 A2 : Option Addr) (c0 n1 c1 n2 c2 : Nat) (tn : Int) (st : Bool) (sv : Int) (g : Nat) (w : World) (hlen : ts.length ≤ 1048576) (hg : Blk w g 34 #[.slice A0 ts.length c0, .slice A1 n1 c1, .slice A2 n2 c2, .int .i64 tn, .bool st]) (h0 : Row w A0 (tcells ts)) :
    Calls Try.prog 53 #[.pointer (some ⟨g, 0, none⟩), .int .i64 sv] w fun r w' => r = .returned (.int .i64 (countM ts sv : Nat)) ∧ Below w.heap.size w w' := by
  have H0 := hide h0
  clear h0
  have d0 : w.cell? ⟨g, 0, none⟩ = some (.slice A0 ts.length c0) := hg.cell 0
  go_enter Try.func53, Try.ntmps53
  go_wp2
  go_loopw [5, 13] (fun n i wr => ∃ (k : Nat), k ≤ ts.length ∧ i = .int .i64 k ∧ n = .int .i64 (countM (ts.take k) sv : Nat) ∧ Below w.heap.size w wr) (fun _ i _ => ts.length - (intOf i).toNat)
  case atStart => exact ⟨0, Nat.zero_le _, rfl, by simp [countM], Below.refl _ _⟩
  case round =>
    obtain ⟨k, hk, rfl, rfl, hbel⟩ := hrel
    have hsz := hbel.size
    have hcl := countM_le (ts.take k) sv
    rw [List.length_take] at hcl
    have htk := countM_take ts sv k
    by_cases hlt : k < ts.length
    · obtain ⟨b, off, s, l, o, wt, on, v, t, rfl, hd, _, _, z0, z1, z2, z3, z4, z5, z6⟩ := (H0.out.below hbel).ts_at hlt
      have htk1 := countM_take ts sv (k + 1)
      rw [hd] at htk
      simp only [countM] at htk
      clear hd
      by_cases h1 : s = sv
      · rw [if_pos h1] at htk
        have hct : countM (ts.take (k + 1)) sv = countM (ts.take k) sv + 1 := by omega
        have Hc := hide hct
        generalize countM (ts.take k) sv = m at *
        clear htk htk1 hct
        go_wp2
        go_roundw
        case rel => exact ⟨k + 1, by omega, by go_num, by rw [Hc.out]; go_num, by go_grown⟩
        case measure => simp [intOf]; omega
      · rw [if_neg h1] at htk
        have hct : countM (ts.take (k + 1)) sv = countM (ts.take k) sv := by omega
        have Hc := hide hct
        generalize countM (ts.take k) sv = m at *
        clear htk htk1 hct
        go_wp2
        go_roundw
        case rel => exact ⟨k + 1, by omega, by go_num, by rw [Hc.out], by go_grown⟩
        case measure => simp [intOf]; omega
    · obtain rfl : k = ts.length := by omega
      clear htk hcl
      rw [List.take_length]
      go_wp2
      go_ret
      exact ⟨rfl, by go_grown⟩

set_option maxHeartbeats 1000000 in
theorem gCountOf_any (ts : List T7) (A0 A1 A2 : Option Addr) (c0 n1 c1 n2 c2 : Nat) (tn : Int) (st : Bool) (sv : Int) (w : World) (hlen : ts.length ≤ 1048576) (h0 : Row w A0 (tcells ts)) :
    Calls Try.prog 16 #[.agg #[.slice A0 ts.length c0, .slice A1 n1 c1, .slice A2 n2 c2, .int .i64 tn, .bool st], .int .i64 sv] w fun r w' => r = .returned (.int .i64 (countM ts sv : Nat)) ∧ Below w.heap.size w w' := by
  have H0 := hide h0
  clear h0
  go_enter Try.func16, Try.ntmps16
  go_wp2_with fail
  go_call (countOf_any ts A0 A1 A2 c0 n1 c1 n2 c2 tn st sv w.heap.size _ hlen (Blk.new _ _ _) (H0.out.below (by go_grown))) as r w1 ⟨rfl, hb1⟩
  go_wp2_with fail
  go_ret
  exact ⟨rfl, Below.trans (by go_grown) (hb1.mono (by go_size))⟩
end Go.Proofs.Ytgncjcnobojgbaa
