/- The dice of the laws: numbers below n out of a code's bytes; what was in memory stays as it was, but for the dice's own block. -/
import Derived.Test.YtgncjcnobojgbaaQFnPools01

namespace Go.Proofs.Ytgncjcnobojgbaa
open Go.RowKit

theorem big_any (A : Option Addr) (len cap : Nat) (w : World) : Calls Try.prog 10 #[.slice A len cap] w fun e w' => e = .returned (.bool (decide (4096 < (len : Int)))) ∧ w = w' := by
  go_enter Try.func10, Try.ntmps10
  go_wp2
  go_ret
  exact ⟨rfl, rfl⟩

/-- A dice at block g, over a code that lies below block B. -/
def DiceAt (B : Nat) (w : World) (g : Nat) (A : Option Addr) (len cap : Nat) : Prop :=
  B ≤ g ∧ len ≤ 4096 ∧ Bytes w B A len ∧ ∃ (i : Nat) (h : Int), Blk w g 73 #[.slice A len cap, .int .i64 (i : Int), .int .u64 h] ∧ i ≤ len
theorem DiceAt.keep {B : Nat} {w w' : World} {g len cap : Nat} {A : Option Addr} (h : DiceAt B w g A len cap) (hk : ∀ b, b ≤ g → w'.heap[b]? = w.heap[b]?) : DiceAt B w' g A len cap := by
  obtain ⟨h1, h2, h3, i, x, h4, h5⟩ := h
  exact ⟨h1, h2, h3.keep fun b hb => hk b (by omega), i, x, (hk g (Nat.le_refl _)).trans h4, h5⟩
theorem DiceAt.lt {B : Nat} {w : World} {g len cap : Nat} {A : Option Addr} (h : DiceAt B w g A len cap) : g < w.heap.size := by
  obtain ⟨_, _, _, _, _, h4, _⟩ := h
  exact h4.lt
/-- A call that may have moved the dice on and made new blocks; nothing else has turned. -/
def Moved (B : Nat) (w w' : World) (g : Nat) (A : Option Addr) (len cap : Nat) : Prop := w.grownBy w' (some g) ∧ DiceAt B w' g A len cap
def Gave (lo hi : Int) (B : Nat) (w : World) (g : Nat) (A : Option Addr) (len cap : Nat) (e : Ending) (w' : World) : Prop :=
  ∃ v : Int, e = .returned (.int .i64 v) ∧ lo ≤ v ∧ v ≤ hi ∧ Moved B w w' g A len cap

set_option maxRecDepth 100000 in
set_option maxHeartbeats 1000000 in
theorem below_any (B : Nat) (w : World) (g : Nat) (A : Option Addr) (len cap : Nat) (n : Int) (hn : 1 ≤ n) (hn2 : n ≤ 1000000) (hd : DiceAt B w g A len cap) :
    Calls Try.prog 15 #[.pointer (some ⟨g, 0, none⟩), .int .i64 n] w (Gave 0 (n - 1) B w g A len cap) := by
  obtain ⟨hB, hl, hby, i, h, hblk, hi⟩ := hd
  have c0 : w.cell? ⟨g, 0, none⟩ = some (.slice A len cap) := hblk.cell 0
  have c1 : w.cell? ⟨g, 1, none⟩ = some (.int .i64 (i : Int)) := hblk.cell 1
  have c2 : w.cell? ⟨g, 2, none⟩ = some (.int .u64 h) := hblk.cell 2
  have f1 : w.frozen? ⟨g, 1, none⟩ = false := hblk.frozen 1
  have f2 : w.frozen? ⟨g, 2, none⟩ = false := hblk.frozen 2
  go_enter Try.func15, Try.ntmps15
  go_wp2
  generalize hH : IntKind.u64.wrap (IntKind.u64.wrap (h * 6364136223846793005) + 1442695040888963407) = H
  have hb := and24 (H / 8589934592)
  have hX : wrap64 (bits BinOp.and IntKind.u64 (H / 8589934592) 16777215) = bits BinOp.and IntKind.u64 (H / 8589934592) 16777215 := IntWalk.wrap64_in _ (by omega)
  rw [hX]
  generalize bits BinOp.and IntKind.u64 (H / 8589934592) 16777215 = X at hb
  clear hX hH
  have hblk1 := hblk.set_ 2 (.int .u64 H)
  have hgr1 : w.grownBy (w.setCell ⟨g, 2, none⟩ (.int .u64 H)) (some g) := only_setCell (World.grownBy.refl w _) (.inl rfl) _
  generalize w.setCell ⟨g, 2, none⟩ (.int .u64 H) = w1 at hblk1 hgr1
  clear c0 c1 c2 f1 f2
  have c0 : w1.cell? ⟨g, 0, none⟩ = some (.slice A len cap) := hblk1.cell 0
  have c1 : w1.cell? ⟨g, 1, none⟩ = some (.int .i64 (i : Int)) := hblk1.cell 1
  have f1 : w1.frozen? ⟨g, 1, none⟩ = false := hblk1.frozen 1
  by_cases hlt : i < len
  · obtain ⟨b, off, rfl, hbB, hz⟩ := hby (by omega)
    obtain ⟨z, hz0, hz1, hz2⟩ := hz i hlt
    have hz3 : w1.cell? ⟨b, off + i, none⟩ = some (.int .u8 z) := (World.cell?_of_block (hgr1.block b (by have := hblk.lt; omega) (by intro e; injection e; omega))).trans hz2
    go_quiet (fail)
    go_wp2_with fail
    go_quiet (fail)
    go_wp2
    go_ret
    refine ⟨(X + z) % n, rfl, Int.emod_nonneg _ (by omega), by have := Int.emod_lt_of_pos (X + z) (by omega : 0 < n); omega, only_setCell (only_drewN hgr1 _) (.inl rfl) _, ?_⟩
    refine ⟨hB, hl, hby.keep fun c hc => ?_, i + 1, H, ((hblk1.drewN _).set_ 1 _).to (by simp), by omega⟩
    exact (only_setCell (only_drewN hgr1 _) (.inl rfl) _).block c (by have := hblk.lt; omega) (by intro e; injection e; omega)
  · go_quiet (fail)
    go_wp2
    go_ret
    refine ⟨X % n, rfl, Int.emod_nonneg _ (by omega), by have := Int.emod_lt_of_pos X (by omega : 0 < n); omega, only_drewN hgr1 _, ?_⟩
    exact ⟨hB, hl, hby.keep fun c hc => hgr1.block c (by have := hblk.lt; omega) (by intro e; injection e; omega), i, H, (hblk1.drewN _).to (by simp), by omega⟩

set_option maxRecDepth 100000 in
set_option maxHeartbeats 1000000 in
theorem roll_any (B : Nat) (w : World) (A : Option Addr) (len cap : Nat) (s : Int) (hB : B ≤ w.heap.size) (hl : len ≤ 4096) (hby : Bytes w B A len) :
    Calls Try.prog 11 #[.slice A len cap, .int .u64 s] w fun e w' => e = .returned (.pointer (some ⟨w.heap.size, 0, none⟩)) ∧ Below w.heap.size w w' ∧ DiceAt B w' w.heap.size A len cap := by
  go_enter Try.func11, Try.ntmps11
  go_wp2
  go_loopw [6] (fun i wr => ∃ (k : Nat) (h : Int), k ≤ len ∧ i = .int .i64 k ∧ Below w.heap.size w wr ∧ Blk wr w.heap.size 73 #[.slice A len cap, .int .i64 0, .int .u64 h]) (fun i _ => len - (intOf i).toNat)
  case atStart => exact ⟨0, _, Nat.zero_le _, rfl, (Below.refl _ _).alloc (Nat.le_refl _) _, Blk.new _ _ _⟩
  case round =>
    obtain ⟨k, h, hk, rfl, hbel, hblk⟩ := hrel
    have c2 : wr.cell? ⟨w.heap.size, 2, none⟩ = some (.int .u64 h) := hblk.cell 2
    have f2 : wr.frozen? ⟨w.heap.size, 2, none⟩ = false := hblk.frozen 2
    by_cases hlt : k < len
    · obtain ⟨b, off, rfl, hbB, hz⟩ := hby (by omega)
      obtain ⟨z, hz0, hz1, hz2⟩ := hz k hlt
      have hz3 : wr.cell? ⟨b, off + k, none⟩ = some (.int .u8 z) := (World.cell?_of_block (hbel.block b (by omega))).trans hz2
      go_wp2
      go_region
      all_goals go_wp2
      all_goals go_roundw
      case rel => exact ⟨k + 1, _, by omega, by go_num, by go_grown, Blk.to (hblk.set_ 2 _) rfl⟩
      case measure => simp [intOf]; omega
    · go_wp2
      go_ret
      obtain rfl : k = len := by omega
      refine ⟨rfl, hbel, hB, hl, hby.keep fun c hc => hbel.block c (by omega), 0, h, hblk, by omega⟩

/-- A right plan out of the dice. -/
def GavePlan (B : Nat) (w : World) (g : Nat) (A : Option Addr) (len cap : Nat) (r : Ending) (w' : World) : Prop :=
  ∃ a b c d e : Int, r = .returned (.agg #[.int .i64 a, .int .i64 b, .int .i64 c, .int .i64 d, .int .i64 e]) ∧ 1 ≤ a ∧ a ≤ 5 ∧ 3 ≤ b ∧ b ≤ 12 ∧ 1 ≤ c ∧ c ≤ 3 ∧ 1 ≤ d ∧ d ≤ 2 ∧ 1 ≤ e ∧ e ≤ 2 ∧ Moved B w w' g A len cap

set_option maxRecDepth 100000 in
set_option maxHeartbeats 1000000 in
theorem scheme_any (B : Nat) (w : World) (g : Nat) (A : Option Addr) (len cap : Nat) (hd : DiceAt B w g A len cap) :
    Calls Try.prog 12 #[.pointer (some ⟨g, 0, none⟩)] w (GavePlan B w g A len cap) := by
  have hg := hd.lt
  go_enter Try.func12, Try.ntmps12
  go_wp2_with fail
  have hd0 := hd.keep (w' := w.alloc (.cells #[.int .i64 0, .int .i64 0, .int .i64 0, .int .i64 0, .int .i64 0] 28)) fun b hb => Below.heap_alloc w _ b (by omega)
  go_call (below_any B _ g A len cap 5 (by omega) (by omega) hd0) as r w1 ⟨a, rfl, a1, a2, g1, d1⟩
  go_wp2_with fail
  go_call (below_any B _ g A len cap 10 (by omega) (by omega) d1) as r w2 ⟨b, rfl, b1, b2, g2, d2⟩
  go_wp2_with fail
  go_call (below_any B _ g A len cap 3 (by omega) (by omega) d2) as r w3 ⟨c, rfl, c1, c2, g3, d3⟩
  go_wp2_with fail
  go_call (below_any B _ g A len cap 2 (by omega) (by omega) d3) as r w4 ⟨d, rfl, p1, p2, g4, d4⟩
  go_wp2_with fail
  go_call (below_any B _ g A len cap 2 (by omega) (by omega) d4) as r w5 ⟨e, rfl, e1, e2, g5, d5⟩
  have hgr := grownBy_trans (grownBy_trans (grownBy_trans (grownBy_trans g1 g2) g3) g4) g5
  have hx : (w.alloc (.cells #[.int .i64 0, .int .i64 0, .int .i64 0, .int .i64 0, .int .i64 0] 28)).heap.size = w.heap.size + 1 := by simp
  have hblk := (Blk.new w 28 #[.int .i64 0, .int .i64 0, .int .i64 0, .int .i64 0, .int .i64 0]).grown hgr (by intro e; injection e; omega)
  have hsz := hgr.size
  have q0 : w5.cell? ⟨w.heap.size, 0, none⟩ = some (.int .i64 0) := hblk.cell 0
  have f0 : w5.frozen? ⟨w.heap.size, 0, none⟩ = false := hblk.frozen 0
  have q1 : w5.cell? ⟨w.heap.size, 1, none⟩ = some (.int .i64 0) := hblk.cell 1
  have f1 : w5.frozen? ⟨w.heap.size, 1, none⟩ = false := hblk.frozen 1
  have q2 : w5.cell? ⟨w.heap.size, 2, none⟩ = some (.int .i64 0) := hblk.cell 2
  have f2 : w5.frozen? ⟨w.heap.size, 2, none⟩ = false := hblk.frozen 2
  have q3 : w5.cell? ⟨w.heap.size, 3, none⟩ = some (.int .i64 0) := hblk.cell 3
  have f3 : w5.frozen? ⟨w.heap.size, 3, none⟩ = false := hblk.frozen 3
  have q4 : w5.cell? ⟨w.heap.size, 4, none⟩ = some (.int .i64 0) := hblk.cell 4
  have f4 : w5.frozen? ⟨w.heap.size, 4, none⟩ = false := hblk.frozen 4
  go_wp2
  have hb5 := ((((hblk.set_ 0 (.int .i64 (1 + a))).set_ 1 (.int .i64 (3 + b))).set_ 2 (.int .i64 (1 + c))).set_ 3 (.int .i64 (1 + d))).set_ 4 (.int .i64 (1 + e))
  have hgr5 : w.grownBy w5 (some g) := grownBy_trans (only_of_below ((Below.refl _ _).alloc (Nat.le_refl _) _) _) hgr
  have hbel5 : Below w.heap.size w5 (((((w5.setCell ⟨w.heap.size, 0, none⟩ (.int .i64 (1 + a))).setCell ⟨w.heap.size, 1, none⟩ (.int .i64 (3 + b))).setCell ⟨w.heap.size, 2, none⟩ (.int .i64 (1 + c))).setCell ⟨w.heap.size, 3, none⟩ (.int .i64 (1 + d))).setCell ⟨w.heap.size, 4, none⟩ (.int .i64 (1 + e))) := by go_grown
  exact bodyPost_ret (v := .agg #[.int .i64 (1 + a), .int .i64 (3 + b), .int .i64 (1 + c), .int .i64 (1 + d), .int .i64 (1 + e)]) (by simp [results, Try.results12, go_sem, q0, q1, q2, q3, q4]) rfl ⟨_, _, _, _, _, rfl, by omega, by omega, by omega, by omega, by omega, by omega, by omega, by omega, by omega, by omega, grown_then_below hgr5 hbel5, d5.keep fun b hb => hbel5.block b (by omega)⟩
end Go.Proofs.Ytgncjcnobojgbaa
