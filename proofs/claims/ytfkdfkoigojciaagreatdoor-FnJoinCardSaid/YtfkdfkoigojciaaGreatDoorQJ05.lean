/- RunBy and CountOf of program and model: the first running task of an owner; how many are in a state; what was in memory stays as it was. No condition but that the list is no longer than what a machine holds. -/
import Derived.Test.YtfkdfkoigojciaaGreatDoorQJ01
import Derived.Test.YtfkdfkoigojciaaGreatDoorQJ02

namespace Go.Proofs.YtfkdfkoigojciaaGreatDoor
open Go.RowKit
set_option linter.unusedVariables false
def runM : List T7 → Int → Int → Int
 | [], _, _ => -1
 | t :: r, w, i => if t.s = 2 ∧ t.o = w then i else runM r w (i + 1)
set_option maxHeartbeats 1000000 in
theorem sRunBy_any (ts : List T7) (A0 A1 A2 : Option Addr) (c0 n1 c1 n2 c2 : Nat) (tn : Int) (st : Bool) (wk : Int) (w : World) (hlen : ts.length ≤ 1048576) (h0 : Row w A0 (tcells ts)) :
 Calls Tryz.prog 18 #[.agg #[.slice A0 ts.length c0, .slice A1 n1 c1, .slice A2 n2 c2, .int .i64 tn, .bool st], .int .i64 wk] w fun r w' => r = .returned (.int .i64 (runM ts wk 0)) ∧ Below w.heap.size w w' := by
 have H0 := hide h0
 clear h0
 go_enter Tryz.func18, Tryz.ntmps18
 go_wp2
 go_loopw [5] (fun i wr => ∃ (k : Nat), k ≤ ts.length ∧ i = .int .i64 k ∧ runM ts wk 0 = runM (ts.drop k) wk k ∧ Below w.heap.size w wr ∧ Blk wr w.heap.size 35 #[.slice A0 ts.length c0, .slice A1 n1 c1, .slice A2 n2 c2, .int .i64 tn, .bool st]) (fun i _ => ts.length - (intOf i).toNat)
 case atStart => exact ⟨0, Nat.zero_le _, rfl, rfl, by go_grown, Blk.new _ _ _⟩
 case round =>
  obtain ⟨k, hk, rfl, hm, hbel, hblk⟩ := hrel
  have hsz := hbel.size
  have d0 : wr.cell? ⟨w.heap.size, 0, none⟩ = some (.slice A0 ts.length c0) := hblk.cell 0
  have Hm := hide hm
  clear hm
  by_cases hlt : k < ts.length
  ·obtain ⟨b, off, s, l, o, wt, on, v, t, rfl, hd, _, _, z0, z1, z2, z3, z4, z5, z6⟩ := (H0.out.below hbel).ts_at hlt
   have Hd := hide hd
   clear hd
   by_cases h1 : s = 2
   ·by_cases h2 : o = wk
    ·go_wp2
     go_ret
     refine ⟨?_, by go_grown⟩
     rw [Hm.out, Hd.out]; simp [runM, h1, h2]
    ·go_wp2
     go_roundw
     case rel => exact ⟨k + 1, by omega, by go_num, by rw [Hm.out, Hd.out]; simp [runM, h1, h2], by go_grown, hblk⟩
     case measure => simp [intOf]; omega
   ·go_wp2
    go_roundw
    case rel => exact ⟨k + 1, by omega, by go_num, by rw [Hm.out, Hd.out]; simp [runM, h1], by go_grown, hblk⟩
    case measure => simp [intOf]; omega
  ·go_wp2
   go_ret
   obtain rfl : k = ts.length := by omega
   refine ⟨?_, by go_grown⟩
   rw [Hm.out]; simp [runM]
set_option maxHeartbeats 1000000 in
theorem runBy_any (ts : List T7) (A0 A1 A2 : Option Addr) (c0 n1 c1 n2 c2 : Nat) (tn : Int) (st : Bool) (wk : Int) (g : Nat) (w : World) (hlen : ts.length ≤ 1048576) (hg : Blk w g 35 #[.slice A0 ts.length c0, .slice A1 n1 c1, .slice A2 n2 c2, .int .i64 tn, .bool st]) (h0 : Row w A0 (tcells ts)) :
 Calls Tryz.prog 127 #[.pointer (some ⟨g, 0, none⟩), .int .i64 wk] w fun r w' => r = .returned (.int .i64 (runM ts wk 0)) ∧ Below w.heap.size w w' := by
 have H0 := hide h0
 clear h0
 have d0 : w.cell? ⟨g, 0, none⟩ = some (.slice A0 ts.length c0) := hg.cell 0
 go_enter Tryz.func127, Tryz.ntmps127
 go_wp2
 go_loopw [12] (fun i wr => ∃ (k : Nat), k ≤ ts.length ∧ i = .int .i64 k ∧ runM ts wk 0 = runM (ts.drop k) wk k ∧ Below w.heap.size w wr) (fun i _ => ts.length - (intOf i).toNat)
 case atStart => exact ⟨0, Nat.zero_le _, rfl, rfl, Below.refl _ _⟩
 case round =>
  obtain ⟨k, hk, rfl, hm, hbel⟩ := hrel
  have hsz := hbel.size
  have Hm := hide hm
  clear hm
  by_cases hlt : k < ts.length
  ·obtain ⟨b, off, s, l, o, wt, on, v, t, rfl, hd, _, _, z0, z1, z2, z3, z4, z5, z6⟩ := (H0.out.below hbel).ts_at hlt
   have Hd := hide hd
   clear hd
   by_cases h1 : s = 2
   ·by_cases h2 : o = wk
    ·go_wp2
     go_ret
     refine ⟨?_, by go_grown⟩
     rw [Hm.out, Hd.out]; simp [runM, h1, h2]
    ·go_wp2
     go_roundw
     case rel => exact ⟨k + 1, by omega, by go_num, by rw [Hm.out, Hd.out]; simp [runM, h1, h2], by go_grown⟩
     case measure => simp [intOf]; omega
   ·go_wp2
    go_roundw
    case rel => exact ⟨k + 1, by omega, by go_num, by rw [Hm.out, Hd.out]; simp [runM, h1], by go_grown⟩
    case measure => simp [intOf]; omega
  ·go_wp2
   go_ret
   obtain rfl : k = ts.length := by omega
   refine ⟨?_, by go_grown⟩
   rw [Hm.out]; simp [runM]
end Go.Proofs.YtfkdfkoigojciaaGreatDoor
