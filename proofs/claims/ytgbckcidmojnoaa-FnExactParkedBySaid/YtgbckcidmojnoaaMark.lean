/- The laws' marks: all that a pool of the call's own holds is overwritten by numbers, and read again: it owns its memory. The lists no longer than a million. -/
import Derived.Test.YtgbckcidmojnoaaEqPool
import Derived.Test.YtgbckcidmojnoaaWithin
namespace Go.Proofs.Ytgbckcidmojnoaa
open Go.RowKit
set_option linter.unusedVariables false

theorem ret_int {a b : Int} (h : a = b) : Ending.returned (.int .i64 a) = .returned (.int .i64 b) := by rw [h]
def markT (k : Int) : Nat → List T7
  | 0 => []
  | n + 1 => ⟨k, k + 1, k + 1 + 1, k + 1 + 1 + 1, k + 1 + 1 + 1 + 1, k + 1 + 1 + 1 + 1 + 1, k + 1 + 1 + 1 + 1 + 1 + 1⟩ :: markT (k + 7) n
def markK (k : Int) : Nat → List Int
  | 0 => []
  | n + 1 => k :: markK (k + 1) n
def markF (k : Int) : Nat → List F2
  | 0 => []
  | n + 1 => ⟨k % 3 == 0, k + 1⟩ :: markF (k + 2) n
theorem markT_length (k : Int) (n : Nat) : (markT k n).length = n := by induction n generalizing k with | zero => rfl | succ n ih => simp [markT, ih]
theorem markK_length (k : Int) (n : Nat) : (markK k n).length = n := by induction n generalizing k with | zero => rfl | succ n ih => simp [markK, ih]
theorem markF_length (k : Int) (n : Nat) : (markF k n).length = n := by induction n generalizing k with | zero => rfl | succ n ih => simp [markF, ih]
theorem markT_at (k : Int) (n j : Nat) (h : j < n) (m : Int) (hm : m = k + 7 * j) : (markT k n)[j]? = some ⟨m, m + 1, m + 1 + 1, m + 1 + 1 + 1, m + 1 + 1 + 1 + 1, m + 1 + 1 + 1 + 1 + 1, m + 1 + 1 + 1 + 1 + 1 + 1⟩ := by
  subst hm
  induction n generalizing k j with
  | zero => omega
  | succ n ih =>
    cases j with
    | zero => simp [markT]
    | succ j => simp only [markT, List.getElem?_cons_succ]; rw [ih (k + 7) j (by omega), show k + 7 + 7 * (j : Int) = k + 7 * ((j + 1 : Nat) : Int) from by omega]
theorem markK_at (k : Int) (n j : Nat) (h : j < n) (m : Int) (hm : m = k + j) : (markK k n)[j]? = some m := by
  subst hm
  induction n generalizing k j with
  | zero => omega
  | succ n ih =>
    cases j with
    | zero => simp [markK]
    | succ j => simp only [markK, List.getElem?_cons_succ]; rw [ih (k + 1) j (by omega), show k + 1 + (j : Int) = k + ((j + 1 : Nat) : Int) from by omega]
theorem markF_at (k : Int) (n j : Nat) (h : j < n) (m : Int) (hm : m = k + 2 * j) : (markF k n)[j]? = some ⟨m % 3 == 0, m + 1⟩ := by
  subst hm
  induction n generalizing k j with
  | zero => omega
  | succ n ih =>
    cases j with
    | zero => simp [markF]
    | succ j => simp only [markF, List.getElem?_cons_succ]; rw [ih (k + 2) j (by omega), show k + 2 + 2 * (j : Int) = k + 2 * ((j + 1 : Nat) : Int) from by omega]
theorem grown_put {a w : World} {g : Nat} (h : a.grownBy w (some g)) (o : Nat) (v : Value) : a.grownBy (w.setCell ⟨g, o, none⟩ v) (some g) := only_setCell h (.inl rfl) v

set_option maxRecDepth 100000 in
set_option maxHeartbeats 1000000 in
theorem markT_any (ts : List T7) (A : Option Addr) (c : Nat) (lo hi : Nat) (q : Int) (w : World) (hlen : ts.length ≤ 1048576) (hq0 : 0 ≤ q) (hq1 : q ≤ 100000000) (h : OwnR w lo hi 46 7 (.slice A ts.length c) ts.length (tcells ts)) :
    Calls Try.prog 78 #[.slice A ts.length c, .int .i64 q] w fun r w' => r = .returned (.int .i64 (q + 7 * ts.length)) ∧ OwnR w' lo hi 46 7 (.slice A ts.length c) ts.length (tcells (markT q ts.length)) ∧ w.grownBy w' (Value.slice A ts.length c).ownBlock := by
  have H := hide h
  have hhi := hide h.2
  clear h
  go_enter Try.func78, Try.ntmps78
  go_wp2
  go_loopw [1, 5] (fun m i wr => ∃ (k : Nat) (us : List T7), k ≤ ts.length ∧ i = .int .i64 k ∧ m = .int .i64 (q + 7 * k) ∧ us.length = ts.length ∧ us.take k = (markT q ts.length).take k ∧ wr.ownsRow lo 46 7 (.slice A ts.length c) ts.length (tcells us) ∧ w.grownBy wr (Value.slice A ts.length c).ownBlock) (fun _ i _ => ts.length - (intOf i).toNat)
  case atStart => exact ⟨0, ts, Nat.zero_le _, rfl, by simp, rfl, rfl, H.out.1, World.grownBy.refl _ _⟩
  case round =>
    obtain ⟨k, us, hk, rfl, rfl, hul, htk, hown, hgr⟩ := hrel
    obtain ⟨m, hm⟩ : ∃ m : Int, m = q + 7 * (k : Int) := ⟨_, rfl⟩
    have Hm := hide hm
    by_cases hlt : k < ts.length
    · obtain ⟨g, cap, hv, _, hgl⟩ := hown.form (by omega)
      injection hv with hA _ hc
      subst hA hc
      have hm0 : 0 ≤ m := by omega
      have hm1 : m ≤ 200000000 := by omega
      rw [← hm]
      clear hm
      obtain ⟨s1, l1, o1, wt1, on1, v1, t1, _, y0, y1, y2, y3, y4, y5, y6⟩ := Own.t7 hown (show k < us.length by omega)
      have f0 : wr.frozen? ⟨g, k * 7, none⟩ = false := Own.fz hown _
      have f1 : wr.frozen? ⟨g, k * 7 + 1, none⟩ = false := Own.fz hown _
      have f2 : wr.frozen? ⟨g, k * 7 + 2, none⟩ = false := Own.fz hown _
      have f3 : wr.frozen? ⟨g, k * 7 + 3, none⟩ = false := Own.fz hown _
      have f4 : wr.frozen? ⟨g, k * 7 + 4, none⟩ = false := Own.fz hown _
      have f5 : wr.frozen? ⟨g, k * 7 + 5, none⟩ = false := Own.fz hown _
      have f6 : wr.frozen? ⟨g, k * 7 + 6, none⟩ = false := Own.fz hown _
      have H1 := hide (⟨hown, hul, htk, hgr⟩ : _ ∧ _ ∧ _ ∧ _)
      clear hown hul htk hgr
      go_wp2
      go_roundw
      case rel =>
        obtain ⟨hown, hul, htk, hgr⟩ := H1.out
        have hgr : w.grownBy wr (some g) := hgr
        have hat := markT_at q ts.length k hlt m Hm.out
        exact ⟨k + 1, _, by omega, by go_num, by have := Hm.out; congr 1; omega, by rw [List.length_set]; exact hul, take_set (by rw [markT_length]; exact hul) htk hat, Own.put7 hown k m (m + 1) (m + 1 + 1) (m + 1 + 1 + 1) (m + 1 + 1 + 1 + 1) (m + 1 + 1 + 1 + 1 + 1) (m + 1 + 1 + 1 + 1 + 1 + 1), grown_put (grown_put (grown_put (grown_put (grown_put (grown_put (grown_put (hgr) _ _) _ _) _ _) _ _) _ _) _ _) _ _⟩
      case measure => simp [intOf]; omega
    · obtain rfl : k = ts.length := by omega
      have hus : us = markT q ts.length := by
        rw [List.take_of_length_le (by omega), List.take_of_length_le (by rw [markT_length]; exact Nat.le_refl _)] at htk
        exact htk
      clear htk hul
      subst hus
      have H1 := hide (⟨hown, hgr⟩ : _ ∧ _)
      clear hown hgr Hm hm
      go_wp2
      go_ret
      exact ⟨rfl, ⟨H1.out.1, hhi.out⟩, H1.out.2⟩

set_option maxRecDepth 100000 in
set_option maxHeartbeats 1000000 in
theorem markK_any (ks : List Int) (A : Option Addr) (c : Nat) (lo hi : Nat) (q : Int) (w : World) (hlen : ks.length ≤ 1048576) (hq0 : 0 ≤ q) (hq1 : q ≤ 100000000) (h : OwnR w lo hi 2 1 (.slice A ks.length c) ks.length (icells ks)) :
    Calls Try.prog 36 #[.slice A ks.length c, .int .i64 q] w fun r w' => r = .returned (.int .i64 (q + ks.length)) ∧ OwnR w' lo hi 2 1 (.slice A ks.length c) ks.length (icells (markK q ks.length)) ∧ w.grownBy w' (Value.slice A ks.length c).ownBlock := by
  have H := hide h
  have hhi := hide h.2
  clear h
  go_enter Try.func36, Try.ntmps36
  go_wp2
  go_loopw [1, 5] (fun m i wr => ∃ (k : Nat) (us : List Int), k ≤ ks.length ∧ i = .int .i64 k ∧ m = .int .i64 (q + k) ∧ us.length = ks.length ∧ us.take k = (markK q ks.length).take k ∧ wr.ownsRow lo 2 1 (.slice A ks.length c) ks.length (icells us) ∧ w.grownBy wr (Value.slice A ks.length c).ownBlock) (fun _ i _ => ks.length - (intOf i).toNat)
  case atStart => exact ⟨0, ks, Nat.zero_le _, rfl, by simp, rfl, rfl, H.out.1, World.grownBy.refl _ _⟩
  case round =>
    obtain ⟨k, us, hk, rfl, rfl, hul, htk, hown, hgr⟩ := hrel
    obtain ⟨m, hm⟩ : ∃ m : Int, m = q + (k : Int) := ⟨_, rfl⟩
    have Hm := hide hm
    by_cases hlt : k < ks.length
    · obtain ⟨g, cap, hv, _, hgl⟩ := hown.form (by omega)
      injection hv with hA _ hc
      subst hA hc
      have hm0 : 0 ≤ m := by omega
      have hm1 : m ≤ 200000000 := by omega
      rw [← hm]
      clear hm
      obtain ⟨v1, _, y0⟩ := Own.i1 hown (show k < us.length by omega)
      have f0 : wr.frozen? ⟨g, k, none⟩ = false := Own.fz hown _
      have H1 := hide (⟨hown, hul, htk, hgr⟩ : _ ∧ _ ∧ _ ∧ _)
      clear hown hul htk hgr
      go_wp2
      go_roundw
      case rel =>
        obtain ⟨hown, hul, htk, hgr⟩ := H1.out
        have hgr : w.grownBy wr (some g) := hgr
        have hat := markK_at q ks.length k hlt m Hm.out
        exact ⟨k + 1, _, by omega, by go_num, by have := Hm.out; congr 1; omega, by rw [List.length_set]; exact hul, take_set (by rw [markK_length]; exact hul) htk hat, Own.put1 hown k m, grown_put (hgr) _ _⟩
      case measure => simp [intOf]; omega
    · obtain rfl : k = ks.length := by omega
      have hus : us = markK q ks.length := by
        rw [List.take_of_length_le (by omega), List.take_of_length_le (by rw [markK_length]; exact Nat.le_refl _)] at htk
        exact htk
      clear htk hul
      subst hus
      have H1 := hide (⟨hown, hgr⟩ : _ ∧ _)
      clear hown hgr Hm hm
      go_wp2
      go_ret
      exact ⟨rfl, ⟨H1.out.1, hhi.out⟩, H1.out.2⟩

set_option maxRecDepth 100000 in
set_option maxHeartbeats 1000000 in
theorem markF_any (fs : List F2) (A : Option Addr) (c : Nat) (lo hi : Nat) (q : Int) (w : World) (hlen : fs.length ≤ 1048576) (hq0 : 0 ≤ q) (hq1 : q ≤ 100000000) (h : OwnR w lo hi 92 2 (.slice A fs.length c) fs.length (fcells fs)) :
    Calls Try.prog 79 #[.slice A fs.length c, .int .i64 q] w fun r w' => r = .returned (.int .i64 (q + 2 * fs.length)) ∧ OwnR w' lo hi 92 2 (.slice A fs.length c) fs.length (fcells (markF q fs.length)) ∧ w.grownBy w' (Value.slice A fs.length c).ownBlock := by
  have H := hide h
  have hhi := hide h.2
  clear h
  go_enter Try.func79, Try.ntmps79
  go_wp2
  go_loopw [1, 5] (fun m i wr => ∃ (k : Nat) (us : List F2), k ≤ fs.length ∧ i = .int .i64 k ∧ m = .int .i64 (q + 2 * k) ∧ us.length = fs.length ∧ us.take k = (markF q fs.length).take k ∧ wr.ownsRow lo 92 2 (.slice A fs.length c) fs.length (fcells us) ∧ w.grownBy wr (Value.slice A fs.length c).ownBlock) (fun _ i _ => fs.length - (intOf i).toNat)
  case atStart => exact ⟨0, fs, Nat.zero_le _, rfl, by simp, rfl, rfl, H.out.1, World.grownBy.refl _ _⟩
  case round =>
    obtain ⟨k, us, hk, rfl, rfl, hul, htk, hown, hgr⟩ := hrel
    obtain ⟨m, hm⟩ : ∃ m : Int, m = q + 2 * (k : Int) := ⟨_, rfl⟩
    have Hm := hide hm
    by_cases hlt : k < fs.length
    · obtain ⟨g, cap, hv, _, hgl⟩ := hown.form (by omega)
      injection hv with hA _ hc
      subst hA hc
      have hm0 : 0 ≤ m := by omega
      have hm1 : m ≤ 200000000 := by omega
      rw [← hm]
      clear hm
      obtain ⟨s1, v1, _, y0, y1⟩ := Own.f2 hown (show k < us.length by omega)
      have f0 : wr.frozen? ⟨g, k * 2, none⟩ = false := Own.fz hown _
      have f1 : wr.frozen? ⟨g, k * 2 + 1, none⟩ = false := Own.fz hown _
      have H1 := hide (⟨hown, hul, htk, hgr⟩ : _ ∧ _ ∧ _ ∧ _)
      clear hown hul htk hgr
      go_wp2
      go_roundw
      case rel =>
        obtain ⟨hown, hul, htk, hgr⟩ := H1.out
        have hgr : w.grownBy wr (some g) := hgr
        have hat := markF_at q fs.length k hlt m Hm.out
        exact ⟨k + 1, _, by omega, by go_num, by have := Hm.out; congr 1; omega, by rw [List.length_set]; exact hul, take_set (by rw [markF_length]; exact hul) htk hat, Own.put2 hown k (m % 3 == 0) (m + 1), grown_put (grown_put (hgr) _ _) _ _⟩
      case measure => simp [intOf]; omega
    · obtain rfl : k = fs.length := by omega
      have hus : us = markF q fs.length := by
        rw [List.take_of_length_le (by omega), List.take_of_length_le (by rw [markF_length]; exact Nat.le_refl _)] at htk
        exact htk
      clear htk hul
      subst hus
      have H1 := hide (⟨hown, hgr⟩ : _ ∧ _)
      clear hown hgr Hm hm
      go_wp2
      go_ret
      exact ⟨rfl, ⟨H1.out.1, hhi.out⟩, H1.out.2⟩

set_option maxRecDepth 100000 in
set_option maxHeartbeats 1000000 in
theorem heldT_any (n : Nat) (A : Option Addr) (c : Nat) (q : Int) (w : World) (hlen : n ≤ 1048576) (hq0 : 0 ≤ q) (hq1 : q ≤ 100000000) (h : Row w A (tcells (markT q n))) :
    Calls Try.prog 85 #[.slice A n c, .int .i64 q] w fun r w' => r = .returned (.int .i64 (q + 7 * n)) ∧ Below w.heap.size w w' := by
  have H := hide h
  clear h
  go_enter Try.func85, Try.ntmps85
  go_wp2
  go_loopw [1, 5] (fun m i wr => ∃ (k : Nat), k ≤ n ∧ i = .int .i64 k ∧ m = .int .i64 (q + 7 * k) ∧ wr = w) (fun _ i _ => n - (intOf i).toNat)
  case atStart => exact ⟨0, Nat.zero_le _, rfl, by simp, rfl⟩
  case round =>
    obtain ⟨k, hk, rfl, rfl, rfl⟩ := hrel
    obtain ⟨m, hm⟩ : ∃ m : Int, m = q + 7 * (k : Int) := ⟨_, rfl⟩
    have Hm := hide hm
    by_cases hlt : k < n
    · obtain ⟨b, off, s, l, o, wt, on, v, t, rfl, _, hx, hbz, z0, z1, z2, z3, z4, z5, z6⟩ := H.out.ts_at (k := k) (by rw [markT_length]; exact hlt)
      rw [markT_at q n k hlt m hm] at hx
      injection hx with hx
      injection hx with u0 u1 u2 u3 u4 u5 u6
      subst u0 u1 u2 u3 u4 u5 u6
      have hm0 : 0 ≤ m := by omega
      have hm1 : m ≤ 200000000 := by omega
      rw [← hm]
      clear hm
      go_wp2
      go_roundw
      case rel => exact ⟨k + 1, by omega, by go_num, by have := Hm.out; congr 1; omega, by trivial⟩
      case measure => simp [intOf]; omega
    · obtain rfl : k = n := by omega
      clear Hm hm
      go_wp2
      go_ret
      exact ⟨rfl, Below.refl _ _⟩

set_option maxRecDepth 100000 in
set_option maxHeartbeats 1000000 in
theorem heldK_any (n : Nat) (A : Option Addr) (c : Nat) (q : Int) (w : World) (hlen : n ≤ 1048576) (hq0 : 0 ≤ q) (hq1 : q ≤ 100000000) (h : Row w A (icells (markK q n))) :
    Calls Try.prog 37 #[.slice A n c, .int .i64 q] w fun r w' => r = .returned (.int .i64 (q + n)) ∧ Below w.heap.size w w' := by
  have H := hide h
  clear h
  go_enter Try.func37, Try.ntmps37
  go_wp2
  go_loopw [1, 5] (fun m i wr => ∃ (k : Nat), k ≤ n ∧ i = .int .i64 k ∧ m = .int .i64 (q + k) ∧ wr = w) (fun _ i _ => n - (intOf i).toNat)
  case atStart => exact ⟨0, Nat.zero_le _, rfl, by simp, rfl⟩
  case round =>
    obtain ⟨k, hk, rfl, rfl, rfl⟩ := hrel
    obtain ⟨m, hm⟩ : ∃ m : Int, m = q + (k : Int) := ⟨_, rfl⟩
    have Hm := hide hm
    by_cases hlt : k < n
    · obtain ⟨b, off, v, rfl, _, hx, hbz, z0⟩ := H.out.ks_at (k := k) (by rw [markK_length]; exact hlt)
      rw [markK_at q n k hlt m hm] at hx
      injection hx with hx
      
      subst hx
      have hm0 : 0 ≤ m := by omega
      have hm1 : m ≤ 200000000 := by omega
      rw [← hm]
      clear hm
      go_wp2
      go_roundw
      case rel => exact ⟨k + 1, by omega, by go_num, by have := Hm.out; congr 1; omega, by trivial⟩
      case measure => simp [intOf]; omega
    · obtain rfl : k = n := by omega
      clear Hm hm
      go_wp2
      go_ret
      exact ⟨rfl, Below.refl _ _⟩

set_option maxRecDepth 100000 in
set_option maxHeartbeats 1000000 in
theorem heldF_any (n : Nat) (A : Option Addr) (c : Nat) (q : Int) (w : World) (hlen : n ≤ 1048576) (hq0 : 0 ≤ q) (hq1 : q ≤ 100000000) (h : Row w A (fcells (markF q n))) :
    Calls Try.prog 86 #[.slice A n c, .int .i64 q] w fun r w' => r = .returned (.int .i64 (q + 2 * n)) ∧ Below w.heap.size w w' := by
  have H := hide h
  clear h
  go_enter Try.func86, Try.ntmps86
  go_wp2
  go_loopw [1, 5] (fun m i wr => ∃ (k : Nat), k ≤ n ∧ i = .int .i64 k ∧ m = .int .i64 (q + 2 * k) ∧ wr = w) (fun _ i _ => n - (intOf i).toNat)
  case atStart => exact ⟨0, Nat.zero_le _, rfl, by simp, rfl⟩
  case round =>
    obtain ⟨k, hk, rfl, rfl, rfl⟩ := hrel
    obtain ⟨m, hm⟩ : ∃ m : Int, m = q + 2 * (k : Int) := ⟨_, rfl⟩
    have Hm := hide hm
    by_cases hlt : k < n
    · obtain ⟨b, off, s, v, rfl, _, hx, hbz, z0, z1⟩ := H.out.fs_at (k := k) (by rw [markF_length]; exact hlt)
      rw [markF_at q n k hlt m hm] at hx
      injection hx with hx
      injection hx with u0 u1
      subst u0 u1
      have hm0 : 0 ≤ m := by omega
      have hm1 : m ≤ 200000000 := by omega
      rw [← hm]
      clear hm
      go_wp2
      go_roundw
      case rel => exact ⟨k + 1, by omega, by go_num, by have := Hm.out; congr 1; omega, by trivial⟩
      case measure => simp [intOf]; omega
    · obtain rfl : k = n := by omega
      clear Hm hm
      go_wp2
      go_ret
      exact ⟨rfl, Below.refl _ _⟩

def markEnd (q : Int) (n0 n1 n2 : Nat) : Int := q + 7 * n0 + n1 + 2 * n2
def MarkPool (w : World) (lo hi : Nat) (n0 n1 n2 : Nat) (A0 A1 A2 : Option Addr) (c0 c1 c2 : Nat) (q : Int) (r : Ending) (w' : World) : Prop :=
  r = .returned (.int .i64 (markEnd q n0 n1 n2)) ∧ OwnPool w' lo hi (markT q n0) (markK (q + 7 * n0) n1) (markF (q + 7 * n0 + n1) n2) A0 A1 A2 c0 c1 c2 ∧ Within lo hi w w'

set_option maxRecDepth 100000 in
set_option maxHeartbeats 1000000 in
theorem markPool_any (ts : List T7) (ks : List Int) (fs : List F2) (A0 A1 A2 : Option Addr) (c0 c1 c2 : Nat) (tn : Int) (st : Bool) (lo hi : Nat) (q : Int) (w : World) (hlo : lo ≤ hi) (hhi : hi ≤ w.heap.size) (hlen : ts.length + ks.length + fs.length ≤ 1048576) (hq0 : 0 ≤ q) (hq1 : q ≤ 10) (h : OwnPool w lo hi ts ks fs A0 A1 A2 c0 c1 c2) :
    Calls Try.prog 35 #[.agg #[.slice A0 ts.length c0, .slice A1 ks.length c1, .slice A2 fs.length c2, .int .i64 tn, .bool st], .int .i64 q] w (MarkPool w lo hi ts.length ks.length fs.length A0 A1 A2 c0 c1 c2 q) := by
  go_enter Try.func35, Try.ntmps35
  go_wp2_with fail
  have kP := Blk.new w 34 #[.slice A0 ts.length c0, .slice A1 ks.length c1, .slice A2 fs.length c2, .int .i64 tn, .bool st]
  have r0 := h.1.alloc (.cells #[.slice A0 ts.length c0, .slice A1 ks.length c1, .slice A2 fs.length c2, .int .i64 tn, .bool st] 34)
  have r1 := h.2.1.alloc (.cells #[.slice A0 ts.length c0, .slice A1 ks.length c1, .slice A2 fs.length c2, .int .i64 tn, .bool st] 34)
  have r2 := h.2.2.alloc (.cells #[.slice A0 ts.length c0, .slice A1 ks.length c1, .slice A2 fs.length c2, .int .i64 tn, .bool st] 34)
  have N : Within lo hi w (w.alloc (.cells #[.slice A0 ts.length c0, .slice A1 ks.length c1, .slice A2 fs.length c2, .int .i64 tn, .bool st] 34)) := Within.of_below (by go_grown)
  have z0 : (w.alloc (.cells #[.slice A0 ts.length c0, .slice A1 ks.length c1, .slice A2 fs.length c2, .int .i64 tn, .bool st] 34)).heap.size = w.heap.size + 1 := by simp
  generalize (w.alloc (.cells #[.slice A0 ts.length c0, .slice A1 ks.length c1, .slice A2 fs.length c2, .int .i64 tn, .bool st] 34)) = W0 at kP r0 r1 r2 N z0 ⊢
  clear h
  go_call (markT_any ts A0 c0 lo hi q W0 (by omega) (by omega) (by omega) r0) as r V0 ⟨rfl, m0, g1⟩
  replace r1 := r1.grown g1 (own_ne_own r1.1 r0.1 (by decide))
  replace r2 := r2.grown g1 (own_ne_own r2.1 r0.1 (by decide))
  replace kP := kP.grown g1 (by intro e; have := r0.2 _ e.symm; omega)
  replace N := N.trans (Within.of_grown g1 (fun g e => ⟨(r0.1.lt g e).1, r0.2 g e⟩))
  clear r0 g1
  have tP : w.heap.size < V0.heap.size := kP.lt
  have qP0 : V0.cell? ⟨w.heap.size, 0, none⟩ = some (.slice A0 ts.length c0) := kP.cell 0
  have qP1 : V0.cell? ⟨w.heap.size, 1, none⟩ = some (.slice A1 ks.length c1) := kP.cell 1
  have qP2 : V0.cell? ⟨w.heap.size, 2, none⟩ = some (.slice A2 fs.length c2) := kP.cell 2
  have qP3 : V0.cell? ⟨w.heap.size, 3, none⟩ = some (.int .i64 tn) := kP.cell 3
  have qP4 : V0.cell? ⟨w.heap.size, 4, none⟩ = some (.bool st) := kP.cell 4
  go_wp2_with fail
  go_call (markK_any ks A1 c1 lo hi (q + 7 * ts.length) V0 (by omega) (by omega) (by omega) r1) as r V1 ⟨rfl, m1, g1⟩
  clear tP qP0 qP1 qP2 qP3 qP4
  replace m0 := m0.grown g1 (own_ne_own m0.1 r1.1 (by decide))
  replace r2 := r2.grown g1 (own_ne_own r2.1 r1.1 (by decide))
  replace kP := kP.grown g1 (by intro e; have := r1.2 _ e.symm; omega)
  replace N := N.trans (Within.of_grown g1 (fun g e => ⟨(r1.1.lt g e).1, r1.2 g e⟩))
  clear r1 g1
  have tP : w.heap.size < V1.heap.size := kP.lt
  have qP0 : V1.cell? ⟨w.heap.size, 0, none⟩ = some (.slice A0 ts.length c0) := kP.cell 0
  have qP1 : V1.cell? ⟨w.heap.size, 1, none⟩ = some (.slice A1 ks.length c1) := kP.cell 1
  have qP2 : V1.cell? ⟨w.heap.size, 2, none⟩ = some (.slice A2 fs.length c2) := kP.cell 2
  have qP3 : V1.cell? ⟨w.heap.size, 3, none⟩ = some (.int .i64 tn) := kP.cell 3
  have qP4 : V1.cell? ⟨w.heap.size, 4, none⟩ = some (.bool st) := kP.cell 4
  go_wp2_with fail
  go_call (markF_any fs A2 c2 lo hi (q + 7 * ts.length + ks.length) V1 (by omega) (by omega) (by omega) r2) as r V2 ⟨rfl, m2, g1⟩
  clear tP qP0 qP1 qP2 qP3 qP4
  replace m0 := m0.grown g1 (own_ne_own m0.1 r2.1 (by decide))
  replace m1 := m1.grown g1 (own_ne_own m1.1 r2.1 (by decide))
  replace kP := kP.grown g1 (by intro e; have := r2.2 _ e.symm; omega)
  replace N := N.trans (Within.of_grown g1 (fun g e => ⟨(r2.1.lt g e).1, r2.2 g e⟩))
  clear r2 g1
  have tP : w.heap.size < V2.heap.size := kP.lt
  have qP0 : V2.cell? ⟨w.heap.size, 0, none⟩ = some (.slice A0 ts.length c0) := kP.cell 0
  have qP1 : V2.cell? ⟨w.heap.size, 1, none⟩ = some (.slice A1 ks.length c1) := kP.cell 1
  have qP2 : V2.cell? ⟨w.heap.size, 2, none⟩ = some (.slice A2 fs.length c2) := kP.cell 2
  have qP3 : V2.cell? ⟨w.heap.size, 3, none⟩ = some (.int .i64 tn) := kP.cell 3
  have qP4 : V2.cell? ⟨w.heap.size, 4, none⟩ = some (.bool st) := kP.cell 4
  go_wp2_with fail
  go_ret
  exact ⟨ret_int (by unfold markEnd; omega), by simp only [OwnPool, markT_length, markK_length, markF_length]; exact ⟨m0, m1, m2⟩, N⟩

set_option maxRecDepth 100000 in
set_option maxHeartbeats 1000000 in
theorem heldPool_any (n0 n1 n2 : Nat) (A0 A1 A2 : Option Addr) (c0 c1 c2 : Nat) (tn : Int) (st : Bool) (q : Int) (w : World) (hlen : n0 + n1 + n2 ≤ 1048576) (hq0 : 0 ≤ q) (hq1 : q ≤ 10) (h : InPool w (markT q n0) (markK (q + 7 * n0) n1) (markF (q + 7 * n0 + n1) n2) A0 A1 A2) :
    Calls Try.prog 42 #[.agg #[.slice A0 n0 c0, .slice A1 n1 c1, .slice A2 n2 c2, .int .i64 tn, .bool st], .int .i64 q] w fun r w' => r = .returned (.int .i64 (markEnd q n0 n1 n2)) ∧ Below w.heap.size w w' := by
  have H := hide h
  clear h
  go_enter Try.func42, Try.ntmps42
  go_wp2_with fail
  have G := Below.refl w.heap.size w
  have kP := Blk.new w 34 #[.slice A0 n0 c0, .slice A1 n1 c1, .slice A2 n2 c2, .int .i64 tn, .bool st]
  have hbs := G.size
  replace G := G.alloc (by omega) (.cells #[.slice A0 n0 c0, .slice A1 n1 c1, .slice A2 n2 c2, .int .i64 tn, .bool st] 34)
  have z1 : (w.alloc (.cells #[.slice A0 n0 c0, .slice A1 n1 c1, .slice A2 n2 c2, .int .i64 tn, .bool st] 34)).heap.size = w.heap.size + 1 := by simp
  clear hbs
  generalize w.alloc (.cells #[.slice A0 n0 c0, .slice A1 n1 c1, .slice A2 n2 c2, .int .i64 tn, .bool st] 34) = W1 at kP G z1 ⊢
  go_call (heldT_any n0 A0 c0 q _ (by omega) hq0 (by omega) (H.out.1.below G)) as r W2 ⟨rfl, g1⟩
  have hbs := G.size
  replace kP := kP.below g1 kP.lt
  replace G := G.trans (g1.mono (by omega))
  have z2 := g1.size
  clear g1 hbs
  have e0 : ¬ (q + 7 * (n0 : Int) < 0) := by omega
  have tP : w.heap.size < W2.heap.size := kP.lt
  have qP0 : W2.cell? ⟨w.heap.size, 0, none⟩ = some (.slice A0 n0 c0) := kP.cell 0
  have qP1 : W2.cell? ⟨w.heap.size, 1, none⟩ = some (.slice A1 n1 c1) := kP.cell 1
  have qP2 : W2.cell? ⟨w.heap.size, 2, none⟩ = some (.slice A2 n2 c2) := kP.cell 2
  have qP3 : W2.cell? ⟨w.heap.size, 3, none⟩ = some (.int .i64 tn) := kP.cell 3
  have qP4 : W2.cell? ⟨w.heap.size, 4, none⟩ = some (.bool st) := kP.cell 4
  go_wp2_with fail
  go_call (heldK_any n1 A1 c1 (q + 7 * n0) _ (by omega) (by omega) (by omega) (H.out.2.1.below G)) as r W3 ⟨rfl, g1⟩
  clear tP qP0 qP1 qP2 qP3 qP4
  have hbs := G.size
  replace kP := kP.below g1 kP.lt
  replace G := G.trans (g1.mono (by omega))
  have z3 := g1.size
  clear g1 hbs
  have e1 : ¬ (q + 7 * (n0 : Int) + n1 < 0) := by omega
  have tP : w.heap.size < W3.heap.size := kP.lt
  have qP0 : W3.cell? ⟨w.heap.size, 0, none⟩ = some (.slice A0 n0 c0) := kP.cell 0
  have qP1 : W3.cell? ⟨w.heap.size, 1, none⟩ = some (.slice A1 n1 c1) := kP.cell 1
  have qP2 : W3.cell? ⟨w.heap.size, 2, none⟩ = some (.slice A2 n2 c2) := kP.cell 2
  have qP3 : W3.cell? ⟨w.heap.size, 3, none⟩ = some (.int .i64 tn) := kP.cell 3
  have qP4 : W3.cell? ⟨w.heap.size, 4, none⟩ = some (.bool st) := kP.cell 4
  go_wp2_with fail
  go_call (heldF_any n2 A2 c2 (q + 7 * n0 + n1) _ (by omega) (by omega) (by omega) (H.out.2.2.below G)) as r W4 ⟨rfl, g1⟩
  clear tP qP0 qP1 qP2 qP3 qP4
  have hbs := G.size
  replace kP := kP.below g1 kP.lt
  replace G := G.trans (g1.mono (by omega))
  have z4 := g1.size
  clear g1 hbs
  have e2 : ¬ (q + 7 * (n0 : Int) + n1 + 2 * n2 < 0) := by omega
  have tP : w.heap.size < W4.heap.size := kP.lt
  have qP0 : W4.cell? ⟨w.heap.size, 0, none⟩ = some (.slice A0 n0 c0) := kP.cell 0
  have qP1 : W4.cell? ⟨w.heap.size, 1, none⟩ = some (.slice A1 n1 c1) := kP.cell 1
  have qP2 : W4.cell? ⟨w.heap.size, 2, none⟩ = some (.slice A2 n2 c2) := kP.cell 2
  have qP3 : W4.cell? ⟨w.heap.size, 3, none⟩ = some (.int .i64 tn) := kP.cell 3
  have qP4 : W4.cell? ⟨w.heap.size, 4, none⟩ = some (.bool st) := kP.cell 4
  go_wp2_with fail
  go_ret
  exact ⟨ret_int (by unfold markEnd; omega), G⟩
end Go.Proofs.Ytgbckcidmojnoaa
