/- The laws' copies of what came in: tasks, tokens, futures, a pool: new memory that holds the same. The lists each no longer than a million. -/
import Derived.Test.YtgbckcidmojnoaaPoolW
import Derived.Test.YtgbckcidmojnoaaPlan
import Derived.Test.YtgbckcidmojnoaaTaskW
namespace Go.Proofs.Ytgbckcidmojnoaa
open Go.RowKit

set_option maxHeartbeats 1000000 in
theorem toFuture_any (s : Bool) (v : Int) (w : World) :
    Calls Try.prog 111 #[.agg #[.bool s, .int .i64 v]] w fun r w' => r = .returned (.agg #[.bool s, .int .i64 v]) ∧ Below w.heap.size w w' := by
  go_enter Try.func111, Try.ntmps111
  go_wp2
  exact bodyPost_ret (v := .agg #[.bool s, .int .i64 v]) (by simp [results, Try.results111, go_sem]) rfl ⟨rfl, by go_grown⟩

set_option maxRecDepth 100000 in
set_option maxHeartbeats 1000000 in
theorem toTaskS_any (ts : List T7) (A : Option Addr) (c : Nat) (w : World) (hlen : ts.length ≤ 1048576) (h0 : Row w A (tcells ts)) :
    Calls Try.prog 73 #[.slice A ts.length c] w fun r w' => ∃ A', r = .returned (.slice A' ts.length ts.length) ∧ w'.ownsRow w.heap.size 46 7 (.slice A' ts.length ts.length) ts.length (tcells ts) ∧ Below w.heap.size w w' := by
  have H0 := hide h0
  clear h0
  obtain ⟨i0, hi, hz0, hz1, hz2⟩ := info_parts infoTask
  go_enter Try.func73, Try.ntmps73
  go_wp2_with (at_make; refine wpList_make_full _ rfl _ _ 30 rfl w.heap.size 46 i0 (.agg #[.int .i64 0, .int .i64 0, .int .i64 0, .int .i64 0, .int .i64 0, .int .i64 0, .int .i64 0]) 7 Try.underlying30 hi hz0 hz1 .i64 .i64 _ _ ts.length rfl rfl rfl rfl (by rw [hz2]; omega) (by unfold maxLen; omega) (Nat.le_refl _) ?_; intro w1 hown hgr)
  rw [tmade] at hown
  have hbel := Below.grown (Below.refl w.heap.size w) hgr (Nat.le_refl _) (by intro g e; cases e)
  clear hgr
  go_loopw [4] (fun i wr => ∃ (k : Nat) (us : List T7), k ≤ ts.length ∧ i = .int .i64 k ∧ us.length = ts.length ∧ us.take k = ts.take k ∧ wr.ownsRow w.heap.size 46 7 (.slice (some ⟨w.heap.size, 0, none⟩) ts.length ts.length) ts.length (tcells us) ∧ Below w.heap.size w wr) (fun i _ => ts.length - (intOf i).toNat)
  case atStart => exact ⟨0, List.replicate ts.length ⟨0, 0, 0, 0, 0, 0, 0⟩, Nat.zero_le _, rfl, by simp, rfl, hown, hbel⟩
  case round =>
    clear hbel hown
    obtain ⟨k, us, hk, rfl, hul, htk, hown, hbel⟩ := hrel
    have hz := hbel.size
    by_cases hlt : k < ts.length
    · obtain ⟨b, off, s, l, o, wt, on, v, t, rfl, hd, ht, hbz, z0, z1, z2, z3, z4, z5, z6⟩ := (H0.out.below hbel).ts_at hlt
      obtain ⟨s1, l1, o1, wt1, on1, v1, t1, _, y0, y1, y2, y3, y4, y5, y6⟩ := Own.t7 hown (show k < us.length by omega)
      have f0 : wr.frozen? ⟨w.heap.size, k * 7, none⟩ = false := Own.fz hown _
      have f1 : wr.frozen? ⟨w.heap.size, k * 7 + 1, none⟩ = false := Own.fz hown _
      have f2 : wr.frozen? ⟨w.heap.size, k * 7 + 2, none⟩ = false := Own.fz hown _
      have f3 : wr.frozen? ⟨w.heap.size, k * 7 + 3, none⟩ = false := Own.fz hown _
      have f4 : wr.frozen? ⟨w.heap.size, k * 7 + 4, none⟩ = false := Own.fz hown _
      have f5 : wr.frozen? ⟨w.heap.size, k * 7 + 5, none⟩ = false := Own.fz hown _
      have f6 : wr.frozen? ⟨w.heap.size, k * 7 + 6, none⟩ = false := Own.fz hown _
      have H1 := hide (⟨hown, ht, hul, htk⟩ : _ ∧ _ ∧ _ ∧ _)
      have hbl : w.heap.size < wr.heap.size := (hown.lt w.heap.size rfl).2
      clear hd ht hown hul htk
      go_wp2_with (go_at_call 110; refine (toTask_any _ _ _ _ _ _ _ _).mono ?_; rintro r w2 ⟨rfl, hb2⟩; obtain ⟨hc, hf⟩ := bcell hb2)
      have hb3 := hbel.trans (hb2.mono hz)
      go_roundw
      case rel => exact ⟨k + 1, _, by omega, by go_num, by rw [List.length_set]; exact H1.out.2.2.1, take_set H1.out.2.2.1 H1.out.2.2.2 H1.out.2.1, Own.put7 (Own.below H1.out.1 hb2) k s l o wt on v t, by go_grown⟩
      case measure => simp [intOf]; omega
    · obtain rfl : k = ts.length := by omega
      rw [← hul, List.take_length, hul, List.take_length] at htk
      subst htk
      have H1 := hide hown
      clear hown
      go_wp2
      go_ret
      exact ⟨_, rfl, H1.out, hbel⟩

set_option maxRecDepth 100000 in
set_option maxHeartbeats 1000000 in
theorem toInt64S_any (ks : List Int) (A : Option Addr) (c : Nat) (w : World) (hlen : ks.length ≤ 1048576) (h0 : Row w A (icells ks)) :
    Calls Try.prog 74 #[.slice A ks.length c] w fun r w' => ∃ A', r = .returned (.slice A' ks.length ks.length) ∧ w'.ownsRow w.heap.size 2 1 (.slice A' ks.length ks.length) ks.length (icells ks) ∧ Below w.heap.size w w' := by
  have H0 := hide h0
  clear h0
  obtain ⟨i0, hi, hz0, hz1, hz2⟩ := info_parts infoInt
  go_enter Try.func74, Try.ntmps74
  go_wp2_with (at_make; refine wpList_make_full _ rfl _ _ 31 rfl w.heap.size 2 i0 (.int .i64 0) 1 Try.underlying31 hi hz0 hz1 .i64 .i64 _ _ ks.length rfl rfl rfl rfl (by rw [hz2]; omega) (by unfold maxLen; omega) (Nat.le_refl _) ?_; intro w1 hown hgr)
  rw [imade] at hown
  have hbel := Below.grown (Below.refl w.heap.size w) hgr (Nat.le_refl _) (by intro g e; cases e)
  clear hgr
  go_loopw [4] (fun i wr => ∃ (k : Nat) (us : List Int), k ≤ ks.length ∧ i = .int .i64 k ∧ us.length = ks.length ∧ us.take k = ks.take k ∧ wr.ownsRow w.heap.size 2 1 (.slice (some ⟨w.heap.size, 0, none⟩) ks.length ks.length) ks.length (icells us) ∧ Below w.heap.size w wr) (fun i _ => ks.length - (intOf i).toNat)
  case atStart => exact ⟨0, List.replicate ks.length 0, Nat.zero_le _, rfl, by simp, rfl, hown, hbel⟩
  case round =>
    clear hbel hown
    obtain ⟨k, us, hk, rfl, hul, htk, hown, hbel⟩ := hrel
    have hz := hbel.size
    by_cases hlt : k < ks.length
    · obtain ⟨b, off, v, rfl, hd, ht, hbz, z0⟩ := (H0.out.below hbel).ks_at hlt
      obtain ⟨v1, _, y0⟩ := Own.i1 hown (show k < us.length by omega)
      have f0 : wr.frozen? ⟨w.heap.size, k, none⟩ = false := Own.fz hown _
      have H1 := hide (⟨hown, ht, hul, htk⟩ : _ ∧ _ ∧ _ ∧ _)
      have hbl : w.heap.size < wr.heap.size := (hown.lt w.heap.size rfl).2
      clear hd ht hown hul htk
      go_wp2
      go_roundw
      case rel => exact ⟨k + 1, _, by omega, by go_num, by rw [List.length_set]; exact H1.out.2.2.1, take_set H1.out.2.2.1 H1.out.2.2.2 H1.out.2.1, Own.put1 H1.out.1 k v, by go_grown⟩
      case measure => simp [intOf]; omega
    · obtain rfl : k = ks.length := by omega
      rw [← hul, List.take_length, hul, List.take_length] at htk
      subst htk
      have H1 := hide hown
      clear hown
      go_wp2
      go_ret
      exact ⟨_, rfl, H1.out, hbel⟩

set_option maxRecDepth 100000 in
set_option maxHeartbeats 1000000 in
theorem toFutureS_any (fs : List F2) (A : Option Addr) (c : Nat) (w : World) (hlen : fs.length ≤ 1048576) (h0 : Row w A (fcells fs)) :
    Calls Try.prog 75 #[.slice A fs.length c] w fun r w' => ∃ A', r = .returned (.slice A' fs.length fs.length) ∧ w'.ownsRow w.heap.size 92 2 (.slice A' fs.length fs.length) fs.length (fcells fs) ∧ Below w.heap.size w w' := by
  have H0 := hide h0
  clear h0
  obtain ⟨i0, hi, hz0, hz1, hz2⟩ := info_parts infoFut
  go_enter Try.func75, Try.ntmps75
  go_wp2_with (at_make; refine wpList_make_full _ rfl _ _ 32 rfl w.heap.size 92 i0 (.agg #[.bool false, .int .i64 0]) 2 Try.underlying32 hi hz0 hz1 .i64 .i64 _ _ fs.length rfl rfl rfl rfl (by rw [hz2]; omega) (by unfold maxLen; omega) (Nat.le_refl _) ?_; intro w1 hown hgr)
  rw [fmade] at hown
  have hbel := Below.grown (Below.refl w.heap.size w) hgr (Nat.le_refl _) (by intro g e; cases e)
  clear hgr
  go_loopw [4] (fun i wr => ∃ (k : Nat) (us : List F2), k ≤ fs.length ∧ i = .int .i64 k ∧ us.length = fs.length ∧ us.take k = fs.take k ∧ wr.ownsRow w.heap.size 92 2 (.slice (some ⟨w.heap.size, 0, none⟩) fs.length fs.length) fs.length (fcells us) ∧ Below w.heap.size w wr) (fun i _ => fs.length - (intOf i).toNat)
  case atStart => exact ⟨0, List.replicate fs.length ⟨false, 0⟩, Nat.zero_le _, rfl, by simp, rfl, hown, hbel⟩
  case round =>
    clear hbel hown
    obtain ⟨k, us, hk, rfl, hul, htk, hown, hbel⟩ := hrel
    have hz := hbel.size
    by_cases hlt : k < fs.length
    · obtain ⟨b, off, s, v, rfl, hd, ht, hbz, z0, z1⟩ := (H0.out.below hbel).fs_at hlt
      obtain ⟨s1, v1, _, y0, y1⟩ := Own.f2 hown (show k < us.length by omega)
      have f0 : wr.frozen? ⟨w.heap.size, k * 2, none⟩ = false := Own.fz hown _
      have f1 : wr.frozen? ⟨w.heap.size, k * 2 + 1, none⟩ = false := Own.fz hown _
      have H1 := hide (⟨hown, ht, hul, htk⟩ : _ ∧ _ ∧ _ ∧ _)
      have hbl : w.heap.size < wr.heap.size := (hown.lt w.heap.size rfl).2
      clear hd ht hown hul htk
      go_wp2_with (go_at_call 111; refine (toFuture_any _ _ _).mono ?_; rintro r w2 ⟨rfl, hb2⟩; obtain ⟨hc, hf⟩ := bcell hb2)
      have hb3 := hbel.trans (hb2.mono hz)
      go_roundw
      case rel => exact ⟨k + 1, _, by omega, by go_num, by rw [List.length_set]; exact H1.out.2.2.1, take_set H1.out.2.2.1 H1.out.2.2.2 H1.out.2.1, Own.put2 (Own.below H1.out.1 hb2) k s v, by go_grown⟩
      case measure => simp [intOf]; omega
    · obtain rfl : k = fs.length := by omega
      rw [← hul, List.take_length, hul, List.take_length] at htk
      subst htk
      have H1 := hide hown
      clear hown
      go_wp2
      go_ret
      exact ⟨_, rfl, H1.out, hbel⟩
end Go.Proofs.Ytgbckcidmojnoaa
