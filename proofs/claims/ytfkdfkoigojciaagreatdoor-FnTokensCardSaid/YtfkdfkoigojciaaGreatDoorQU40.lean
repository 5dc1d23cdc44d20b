import Derived.Test.YtfkdfkoigojciaaGreatDoorQU01
import Derived.Test.YtfkdfkoigojciaaGreatDoorQU03
import Derived.Test.YtfkdfkoigojciaaGreatDoorQU39
import Derived.Test.YtfkdfkoigojciaaGreatDoorQU13

namespace Go.Proofs.YtfkdfkoigojciaaGreatDoor
open Go.RowKit
set_option linter.unusedVariables false
set_option maxHeartbeats 1000000
set_option maxRecDepth 100000
def CurAt (B : Nat) (w : World) (g : Nat) (A : Option Addr) (len cap : Nat) : Prop :=
 B ≤ g ∧ len ≤ 4096 ∧ Bytes w B A len ∧ ∃ (i : Nat) (h : Int), Blk w g 143 #[.slice A len cap, .int .i64 (i : Int), .int .i64 h] ∧ i ≤ len
theorem CurAt.keep {B : Nat} {w w' : World} {g len cap : Nat} {A : Option Addr} (h : CurAt B w g A len cap) (hk : ∀ b, b ≤ g → w'.heap[b]? = w.heap[b]?) : CurAt B w' g A len cap := by
 obtain ⟨h1, h2, h3, i, x, h4, h5⟩ := h
 exact ⟨h1, h2, h3.keep fun b hb => hk b (by omega), i, x, (hk g (Nat.le_refl _)).trans h4, h5⟩
theorem CurAt.lt {B : Nat} {w : World} {g len cap : Nat} {A : Option Addr} (h : CurAt B w g A len cap) : g < w.heap.size := by
 obtain ⟨_, _, _, _, _, h4, _⟩ := h
 exact h4.lt
def CMoved (B : Nat) (w w' : World) (g : Nat) (A : Option Addr) (len cap : Nat) : Prop := w.grownBy w' (some g) ∧ CurAt B w' g A len cap
def CGave (lo hi : Int) (B : Nat) (w : World) (g : Nat) (A : Option Addr) (len cap : Nat) (e : Ending) (w' : World) : Prop :=
 ∃ v : Int, e = .returned (.int .i64 v) ∧ lo ≤ v ∧ v ≤ hi ∧ CMoved B w w' g A len cap
def CSaid (B : Nat) (w : World) (g : Nat) (A : Option Addr) (len cap : Nat) (e : Ending) (w' : World) : Prop :=
 ∃ v : Bool, e = .returned (.bool v) ∧ CMoved B w w' g A len cap
theorem l1New_any (B : Nat) (w : World) (A : Option Addr) (len cap : Nat) (hB : B ≤ w.heap.size) (hl : len ≤ 4096) (hby : Bytes w B A len) :
 Calls Tryz.prog 67 #[.slice A len cap] w fun e w' => e = .returned (.pointer (some ⟨w.heap.size, 0, none⟩)) ∧ Below w.heap.size w w' ∧ CurAt B w' w.heap.size A len cap := by
 go_enter Tryz.func67, Tryz.ntmps67
 go_wp2
 go_loop [3, 4] (fun h i => ∃ (k : Nat) (x : Int), k ≤ len ∧ i = .int .i64 k ∧ h = .int .i64 x) (fun _ i => len - (intOf i).toNat)
 case atStart => exact ⟨0, _, Nat.zero_le _, rfl, rfl⟩
 case round =>
  obtain ⟨k, x, hk, rfl, rfl⟩ := hrel
  by_cases hlt : k < len
  ·obtain ⟨b, off, rfl, hbB, hz⟩ := hby (by omega)
   obtain ⟨z, hz0, hz1, hz2⟩ := hz k hlt
   go_wp2
   go_round
   case rel => exact ⟨k + 1, _, by omega, by go_num, rfl⟩
   case measure => simp [intOf]; omega
  ·go_wp2
   go_ret
   refine ⟨rfl, (Below.refl _ _).alloc (Nat.le_refl _) _, hB, hl, hby.keep fun c hc => Below.heap_alloc w _ c (by omega), 0, x, Blk.new _ _ _, by omega⟩
theorem l1Byte_any (B : Nat) (w : World) (g : Nat) (A : Option Addr) (len cap : Nat) (hd : CurAt B w g A len cap) :
 Calls Tryz.prog 153 #[.pointer (some ⟨g, 0, none⟩)] w (CGave 0 255 B w g A len cap) := by
 obtain ⟨hB, hl, hby, i, h, hblk, hi⟩ := hd
 have c0 : w.cell? ⟨g, 0, none⟩ = some (.slice A len cap) := hblk.cell 0
 have c1 : w.cell? ⟨g, 1, none⟩ = some (.int .i64 (i : Int)) := hblk.cell 1
 have c2 : w.cell? ⟨g, 2, none⟩ = some (.int .i64 h) := hblk.cell 2
 have f1 : w.frozen? ⟨g, 1, none⟩ = false := hblk.frozen 1
 have f2 : w.frozen? ⟨g, 2, none⟩ = false := hblk.frozen 2
 go_enter Tryz.func153, Tryz.ntmps153
 go_wp2
 generalize wrap64 (wrap64 (h * 6364136223846793005) + 1442695040888963407) = H
 have hblk1 := hblk.set_ 2 (.int .i64 H)
 have hgr1 : w.grownBy (w.setCell ⟨g, 2, none⟩ (.int .i64 H)) (some g) := only_setCell (World.grownBy.refl w _) (.inl rfl) _
 generalize w.setCell ⟨g, 2, none⟩ (.int .i64 H) = w1 at hblk1 hgr1
 clear c0 c1 c2 f1 f2
 have c0 : w1.cell? ⟨g, 0, none⟩ = some (.slice A len cap) := hblk1.cell 0
 have c1 : w1.cell? ⟨g, 1, none⟩ = some (.int .i64 (i : Int)) := hblk1.cell 1
 have c2 : w1.cell? ⟨g, 2, none⟩ = some (.int .i64 H) := hblk1.cell 2
 have f1 : w1.frozen? ⟨g, 1, none⟩ = false := hblk1.frozen 1
 go_quiet (fail)
 go_wp2_with fail
 have hb := and8 (bits BinOp.xor IntKind.i64 (H / 8589934592) (H / 35184372088832))
 generalize bits BinOp.and IntKind.i64 (bits BinOp.xor IntKind.i64 (H / 8589934592) (H / 35184372088832)) 255 = X at hb
 by_cases hlt : i < len
 ·obtain ⟨b, off, rfl, hbB, hz⟩ := hby (by omega)
  obtain ⟨z, hz0, hz1, hz2⟩ := hz i hlt
  have hz3 : w1.cell? ⟨b, off + i, none⟩ = some (.int .u8 z) := (World.cell?_of_block (hgr1.block b (by have := hblk.lt; omega) (by intro e; injection e; omega))).trans hz2
  go_quiet (fail)
  go_wp2_with fail
  go_quiet (fail)
  go_wp2
  go_ret
  refine ⟨_, rfl, (and8 (X + z)).1, (and8 (X + z)).2, only_setCell (only_drewN hgr1 _) (.inl rfl) _, ?_⟩
  refine ⟨hB, hl, hby.keep fun c hc => ?_, i + 1, H, ((hblk1.drewN _).set_ 1 _).to (by simp), by omega⟩
  exact (only_setCell (only_drewN hgr1 _) (.inl rfl) _).block c (by have := hblk.lt; omega) (by intro e; injection e; omega)
 ·go_quiet (fail)
  go_wp2
  go_ret
  refine ⟨X, rfl, by omega, by omega, only_drewN (only_drewN hgr1 _) _, ?_⟩
  exact ⟨hB, hl, hby.keep fun c hc => hgr1.block c (by have := hblk.lt; omega) (by intro e; injection e; omega), i, H, ((hblk1.drewN _).drewN _).to (by simp), by omega⟩
theorem four_bytes {a b c d n : Int} (hn : 1 ≤ n) : 0 ≤ (a * 16777216 + b * 65536 + c * 256 + d) % n ∧ (a * 16777216 + b * 65536 + c * 256 + d) % n ≤ n - 1 := by
 have := Int.emod_nonneg (a * 16777216 + b * 65536 + c * 256 + d) (by omega : n ≠ 0)
 have := Int.emod_lt_of_pos (a * 16777216 + b * 65536 + c * 256 + d) (by omega : 0 < n)
 omega
theorem l1Below_pos (B : Nat) (w : World) (g : Nat) (A : Option Addr) (len cap : Nat) (n : Int) (hn : 1 ≤ n) (hn2 : n ≤ 4611686018427387904) (hd : CurAt B w g A len cap) :
 Calls Tryz.prog 96 #[.pointer (some ⟨g, 0, none⟩), .int .i64 n] w (CGave 0 (n - 1) B w g A len cap) := by
 by_cases h256 : n ≤ 256
 ·go_enter Tryz.func96, Tryz.ntmps96
  go_wp2_with fail
  go_call (l1Byte_any B _ g A len cap hd) as r w1 ⟨a, rfl, a1, a2, g1, d1⟩
  go_wp2_with fail
  go_ret
  exact ⟨a % n, rfl, Int.emod_nonneg _ (by omega), by have := Int.emod_lt_of_pos a (by omega : 0 < n); omega, g1, d1⟩
 ·go_enter Tryz.func96, Tryz.ntmps96
  go_wp2_with fail
  go_call (l1Byte_any B _ g A len cap hd) as r w1 ⟨a, rfl, a1, a2, g1, d1⟩
  go_wp2_with fail
  go_call (l1Byte_any B _ g A len cap d1) as r w2 ⟨b, rfl, b1, b2, g2, d2⟩
  go_wp2_with fail
  go_call (l1Byte_any B _ g A len cap d2) as r w3 ⟨c, rfl, c1, c2, g3, d3⟩
  go_wp2_with fail
  go_call (l1Byte_any B _ g A len cap d3) as r w4 ⟨d, rfl, e1, e2, g4, d4⟩
  go_wp2_with fail
  go_ret
  have hf := four_bytes (a := a) (b := b) (c := c) (d := d) hn
  exact ⟨_, rfl, hf.1, hf.2, grownBy_trans (grownBy_trans (grownBy_trans g1 g2) g3) g4, d4⟩
theorem l1Once_any (B : Nat) (w : World) (g : Nat) (A : Option Addr) (len cap : Nat) (n : Int) (hn : 1 ≤ n) (hn2 : n ≤ 4611686018427387904) (hd : CurAt B w g A len cap) :
 Calls Tryz.prog 95 #[.pointer (some ⟨g, 0, none⟩), .int .i64 n] w (CSaid B w g A len cap) := by
 go_enter Tryz.func95, Tryz.ntmps95
 go_wp2_with fail
 go_call (l1Below_pos B _ g A len cap n hn hn2 hd) as r w1 ⟨a, rfl, a1, a2, g1, d1⟩
 go_wp2_with fail
 go_ret
 exact ⟨_, rfl, g1, d1⟩
theorem l1From_any (B : Nat) (w : World) (g : Nat) (A : Option Addr) (len cap : Nat) (lo hi : Int) (h1 : -1000000 ≤ lo) (h2 : lo ≤ hi) (h3 : hi ≤ 1000000000) (hd : CurAt B w g A len cap) :
 Calls Tryz.prog 68 #[.pointer (some ⟨g, 0, none⟩), .int .i64 lo, .int .i64 hi] w (CGave lo hi B w g A len cap) := by
 go_enter Tryz.func68, Tryz.ntmps68
 go_wp2_with fail
 go_call (l1Below_pos B _ g A len cap (hi - lo + 1) (by omega) (by omega) hd) as r w1 ⟨a, rfl, a1, a2, g1, d1⟩
 go_wp2_with fail
 go_ret
 exact ⟨lo + a, rfl, by omega, by omega, g1, d1⟩
theorem l1Min_any (a b : Int) (w : World) :
 Calls Tryz.prog 178 #[.int .i64 a, .int .i64 b] w fun e w' => e = .returned (.int .i64 (if a < b then a else b)) ∧ w = w' := by
 by_cases h : a < b
 ·rw [if_pos h]
  go_enter Tryz.func178, Tryz.ntmps178
  go_wp2
  go_ret
  exact ⟨rfl, rfl⟩
 ·rw [if_neg h]
  go_enter Tryz.func178, Tryz.ntmps178
  go_wp2
  go_ret
  exact ⟨rfl, rfl⟩
def Any64 (v : Int) : Prop := -9223372036854775808 ≤ v ∧ v ≤ 9223372036854775807
def CAny (B : Nat) (w : World) (g : Nat) (A : Option Addr) (len cap : Nat) (e : Ending) (w' : World) : Prop :=
 ∃ v : Int, e = .returned (.int .i64 v) ∧ Any64 v ∧ CMoved B w w' g A len cap
theorem odd_at (k : Nat) (h : k < 10) : ∃ v : Int, (#[.int .i64 (-1), .int .i64 0, .int .i64 1, .int .i64 2147483648, .int .i64 (-2147483648), .int .i64 1099511627776, .int .i64 4611686018427387904, .int .i64 (-4611686018427387904), .int .i64 9223372036854775807, .int .i64 (-9223372036854775808)] : Array Value)[k]? = some (.int .i64 v) ∧ Any64 v := by
 have : k = 0 ∨ k = 1 ∨ k = 2 ∨ k = 3 ∨ k = 4 ∨ k = 5 ∨ k = 6 ∨ k = 7 ∨ k = 8 ∨ k = 9 := by omega
 rcases this with rfl | rfl | rfl | rfl | rfl | rfl | rfl | rfl | rfl | rfl <;> exact ⟨_, rfl, by decide, by decide⟩
theorem l1Odd_any (B : Nat) (w : World) (g : Nat) (A : Option Addr) (len cap : Nat) (hd : CurAt B w g A len cap) :
 Calls Tryz.prog 196 #[.pointer (some ⟨g, 0, none⟩)] w (CAny B w g A len cap) := by
 have hg := hd.lt
 go_enter Tryz.func196, Tryz.ntmps196
 go_wp2_with fail
 have hd0 := hd.keep (w' := w.alloc (.cells #[.int .i64 (-1), .int .i64 0, .int .i64 1, .int .i64 2147483648, .int .i64 (-2147483648), .int .i64 1099511627776, .int .i64 4611686018427387904, .int .i64 (-4611686018427387904), .int .i64 9223372036854775807, .int .i64 (-9223372036854775808)] 2)) fun b hb => Below.heap_alloc w _ b (by omega)
 go_call (l1Below_pos B _ g A len cap 10 (by omega) (by omega) hd0) as r w1 ⟨a, rfl, a1, a2, g1, d1⟩
 obtain ⟨k, rfl⟩ : ∃ k : Nat, a = k := Int.eq_ofNat_of_zero_le a1
 obtain ⟨v, hv, hr⟩ := odd_at k (by omega)
 have hc : w1.cell? ⟨w.heap.size, k, none⟩ = some (.int .i64 v) := (((Blk.new w 2 #[.int .i64 (-1), .int .i64 0, .int .i64 1, .int .i64 2147483648, .int .i64 (-2147483648), .int .i64 1099511627776, .int .i64 4611686018427387904, .int .i64 (-4611686018427387904), .int .i64 9223372036854775807, .int .i64 (-9223372036854775808)]).grown g1 (by intro e; injection e; omega)).cell k).trans hv
 clear hv
 have hgr : w.grownBy w1 (some g) := grownBy_trans (only_of_below ((Below.refl _ _).alloc (Nat.le_refl _) _) _) g1
 go_wp2_with fail
 go_ret
 exact ⟨v, rfl, hr, hgr, d1⟩
theorem num_at (m v : Int) (hm : 0 ≤ m) (hm2 : m ≤ 1000000000) (hv : Any64 v) (k : Nat) (h : k < 4) : ∃ u : Int, (#[.int .i64 (-1), .int .i64 m, .int .i64 (m + 1), .int .i64 v] : Array Value)[k]? = some (.int .i64 u) ∧ Any64 u := by
 have : k = 0 ∨ k = 1 ∨ k = 2 ∨ k = 3 := by omega
 rcases this with rfl | rfl | rfl | rfl
 ·exact ⟨_, rfl, by decide, by decide⟩
 ·exact ⟨_, rfl, by omega, by omega⟩
 ·exact ⟨_, rfl, by omega, by omega⟩
 ·exact ⟨_, rfl, hv⟩
theorem l1Num_any (B : Nat) (w : World) (g : Nat) (A : Option Addr) (len cap : Nat) (m : Int) (hm : 0 ≤ m) (hm2 : m ≤ 1000000000) (hd : CurAt B w g A len cap) :
 Calls Tryz.prog 175 #[.pointer (some ⟨g, 0, none⟩), .int .i64 m] w (CAny B w g A len cap) := by
 go_enter Tryz.func175, Tryz.ntmps175
 go_wp2_with fail
 go_call (l1Once_any B _ g A len cap 10 (by omega) (by omega) hd) as r w1 ⟨b, rfl, g1, d1⟩
 cases b
 ·go_wp2_with fail
  go_call (l1Once_any B _ g A len cap 2 (by omega) (by omega) d1) as r w2 ⟨b, rfl, g2, d2⟩
  cases b
  ·go_wp2_with fail
   go_call (l1Below_pos B _ g A len cap (m + 1) (by omega) (by omega) d2) as r w3 ⟨a, rfl, a1, a2, g3, d3⟩
   go_wp2_with fail
   go_ret
   exact ⟨a, rfl, ⟨by omega, by omega⟩, grownBy_trans (grownBy_trans g1 g2) g3, d3⟩
  ·go_wp2_with fail
   go_call (l1Min_any m 4 _) as r w3 ⟨rfl, rfl⟩
   have hx : 0 ≤ (if m < 4 then m else 4) ∧ (if m < 4 then m else 4) ≤ 4 := by split <;> omega
   generalize (if m < 4 then m else 4) = y at hx
   go_wp2_with fail
   go_call (l1Below_pos B _ g A len cap (y + 1) (by omega) (by omega) d2) as r w3 ⟨a, rfl, a1, a2, g3, d3⟩
   go_wp2_with fail
   go_ret
   exact ⟨a, rfl, ⟨by omega, by omega⟩, grownBy_trans (grownBy_trans g1 g2) g3, d3⟩
 ·go_wp2_with fail
  go_call (l1Odd_any B _ g A len cap d1) as r w2 ⟨v, rfl, hv, g2, d2⟩
  go_wp2_with fail
  have hg := d2.lt
  have hd0 := d2.keep (w' := w2.alloc (.cells #[.int .i64 (-1), .int .i64 m, .int .i64 (m + 1), .int .i64 v] 2)) fun b hb => Below.heap_alloc w2 _ b (by omega)
  go_call (l1Below_pos B _ g A len cap 4 (by omega) (by omega) hd0) as r w3 ⟨a, rfl, a1, a2, g3, d3⟩
  obtain ⟨k, rfl⟩ : ∃ k : Nat, a = k := Int.eq_ofNat_of_zero_le a1
  obtain ⟨u, hu, hr⟩ := num_at m v hm hm2 hv k (by omega)
  have hc : w3.cell? ⟨w2.heap.size, k, none⟩ = some (.int .i64 u) := (((Blk.new w2 2 #[.int .i64 (-1), .int .i64 m, .int .i64 (m + 1), .int .i64 v]).grown g3 (by intro e; injection e; omega)).cell k).trans hu
  clear hu
  have hgr : w2.grownBy w3 (some g) := grownBy_trans (only_of_below ((Below.refl _ _).alloc (Nat.le_refl _) _) _) g3
  go_wp2_with fail
  go_ret
  exact ⟨u, rfl, hr, grownBy_trans (grownBy_trans g1 g2) hgr, d3⟩
def GotPlan (B : Nat) (w : World) (g : Nat) (A : Option Addr) (len cap : Nat) (r : Ending) (w' : World) : Prop :=
 ∃ a b c d e : Int, r = .returned (.agg #[.int .i64 a, .int .i64 b, .int .i64 c, .int .i64 d, .int .i64 e]) ∧ 1 ≤ a ∧ a ≤ 4 ∧ 1 ≤ b ∧ b ≤ 9 ∧ 1 ≤ c ∧ c ≤ 3 ∧ 0 ≤ d ∧ d ≤ 2 ∧ 0 ≤ e ∧ e ≤ 2 ∧ CMoved B w w' g A len cap
def GotAny (B : Nat) (w : World) (g : Nat) (A : Option Addr) (len cap : Nat) (r : Ending) (w' : World) : Prop :=
 ∃ a b c d e : Int, r = .returned (.agg #[.int .i64 a, .int .i64 b, .int .i64 c, .int .i64 d, .int .i64 e]) ∧ Any64 a ∧ Any64 b ∧ Any64 c ∧ Any64 d ∧ Any64 e ∧ CMoved B w w' g A len cap
theorem l1DrawPlan_any (B : Nat) (w : World) (g : Nat) (A : Option Addr) (len cap : Nat) (hd : CurAt B w g A len cap) :
 Calls Tryz.prog 194 #[.pointer (some ⟨g, 0, none⟩)] w (GotPlan B w g A len cap) := by
 have hg := hd.lt
 go_enter Tryz.func194, Tryz.ntmps194
 go_wp2_with fail
 have hd0 := hd.keep (w' := w.alloc (.cells #[.int .i64 0, .int .i64 0, .int .i64 0, .int .i64 0, .int .i64 0] 28)) fun b hb => Below.heap_alloc w _ b (by omega)
 go_call (l1Below_pos B _ g A len cap 4 (by omega) (by omega) hd0) as r w1 ⟨a, rfl, a1, a2, g1, d1⟩
 go_wp2_with fail
 go_call (l1Below_pos B _ g A len cap 9 (by omega) (by omega) d1) as r w2 ⟨b, rfl, b1, b2, g2, d2⟩
 go_wp2_with fail
 go_call (l1Below_pos B _ g A len cap 3 (by omega) (by omega) d2) as r w3 ⟨c, rfl, c1, c2, g3, d3⟩
 go_wp2_with fail
 go_call (l1Below_pos B _ g A len cap 3 (by omega) (by omega) d3) as r w4 ⟨d, rfl, p1, p2, g4, d4⟩
 go_wp2_with fail
 go_call (l1Below_pos B _ g A len cap 3 (by omega) (by omega) d4) as r w5 ⟨e, rfl, e1, e2, g5, d5⟩
 have hgr := grownBy_trans (grownBy_trans (grownBy_trans (grownBy_trans g1 g2) g3) g4) g5
 have hx : (w.alloc (.cells #[.int .i64 0, .int .i64 0, .int .i64 0, .int .i64 0, .int .i64 0] 28)).heap.size = w.heap.size + 1 := by simp
 have hblk := (Blk.new w 28 #[.int .i64 0, .int .i64 0, .int .i64 0, .int .i64 0, .int .i64 0]).grown hgr (by intro e; injection e; omega)
 have hsz := hgr.size
 have q0 : w5.cell? ⟨w.heap.size, 0, none⟩ = some (.int .i64 0) := hblk.cell 0
 have f0 : w5.frozen? ⟨w.heap.size, 0, none⟩ = false := hblk.frozen 0
 have q1 : w5.cell? ⟨w.heap.size, 1, none⟩ = some (.int .i64 0) := hblk.cell 1
 have f1 : w5.frozen? ⟨w.heap.size, 1, none⟩ = false := hblk.frozen 1
 have q2 : w5.cell? ⟨w.heap.size, 2, none⟩ = some (.int .i64 0) := hblk.cell 2
 have f2 : w5.frozen? ⟨w.heap.size, 2, none⟩ = false := hblk.frozen 2
 have q3 : w5.cell? ⟨w.heap.size, 3, none⟩ = some (.int .i64 0) := hblk.cell 3
 have f3 : w5.frozen? ⟨w.heap.size, 3, none⟩ = false := hblk.frozen 3
 have q4 : w5.cell? ⟨w.heap.size, 4, none⟩ = some (.int .i64 0) := hblk.cell 4
 have f4 : w5.frozen? ⟨w.heap.size, 4, none⟩ = false := hblk.frozen 4
 go_wp2
 have hgr5 : w.grownBy w5 (some g) := grownBy_trans (only_of_below ((Below.refl _ _).alloc (Nat.le_refl _) _) _) hgr
 have hbel5 : Below w.heap.size w5 (((((w5.setCell ⟨w.heap.size, 0, none⟩ (.int .i64 (1 + a))).setCell ⟨w.heap.size, 1, none⟩ (.int .i64 (1 + b))).setCell ⟨w.heap.size, 2, none⟩ (.int .i64 (1 + c))).setCell ⟨w.heap.size, 3, none⟩ (.int .i64 d)).setCell ⟨w.heap.size, 4, none⟩ (.int .i64 e)) := by go_grown
 exact bodyPost_ret (v := .agg #[.int .i64 (1 + a), .int .i64 (1 + b), .int .i64 (1 + c), .int .i64 d, .int .i64 e]) (by simp [results, Tryz.results194, go_sem, q0, q1, q2, q3, q4]) rfl ⟨_, _, _, _, _, rfl, by omega, by omega, by omega, by omega, by omega, by omega, by omega, by omega, by omega, by omega, grown_then_below hgr5 hbel5, d5.keep fun b hb => hbel5.block b (by omega)⟩
theorem Sep.grown1 {g : Nat} {w W : World} {rs : List Res} (h : Sep [g] w W rs) : w.grownBy W (some g) := ⟨h.os, h.tape, h.output, h.size, fun b hb hne => h.block b hb (by simp; intro e; exact hne (by rw [e]))⟩
def diceC (A : Option Addr) (len cap : Nat) (cs : Array Value) : Prop := ∃ (i : Nat) (h : Int), cs = #[.slice A len cap, .int .i64 (i : Int), .int .u64 h] ∧ i ≤ len
section
variable {B g len cap : Nat} {A : Option Addr} {w W W' : World} {rs : List Res} {cs : Array Value}
theorem dice_start (d : DiceAt B w g A len cap) : ∃ cs, diceC A len cap cs ∧ Sep [g] w w [.blk g 68 cs] := by
 obtain ⟨h1, h2, h3, i, x, h4, h5⟩ := d
 exact ⟨_, ⟨i, x, rfl, h5⟩, rfl, rfl, rfl, Nat.le_refl _, fun _ _ _ => rfl, fun r hr => by rw [List.mem_singleton.1 hr]; exact h4, fun r hr b hb => by rw [List.mem_singleton.1 hr] at hb; injection hb with hb; subst hb; exact .inl (List.mem_singleton_self _), List.pairwise_singleton _ _⟩
theorem Sep.diceAt (h : Sep [g] w W rs) (i : Nat) (hi : rs[i]? = some (.blk g 68 cs)) (d0 : DiceAt B w g A len cap) (hc : diceC A len cap cs) : DiceAt B W g A len cap := by
 obtain ⟨h1, h2, h3, j, x, h4, h5⟩ := d0
 obtain ⟨k, y, rfl, hk⟩ := hc
 exact ⟨h1, h2, h3.keep fun b hb => h.block b (by have := h4.lt; omega) (by simp; omega), k, y, h.blk i hi, hk⟩
theorem Sep.diceMoved (h : Sep [g] w W rs) (i : Nat) (hi : rs[i]? = some (.blk g 68 cs)) (gg : W.grownBy W' (some g)) (d : DiceAt B W' g A len cap) : ∃ cs', diceC A len cap cs' ∧ Sep [g] w W' (rs.set i (.blk g 68 cs')) := by
 obtain ⟨h1, h2, h3, j, x, h4, h5⟩ := d
 exact ⟨_, ⟨j, x, rfl, h5⟩, h.upd i _ _ hi g rfl (fun y hy => by injection hy with hy; exact hy.symm) h4 gg.os gg.tape gg.output gg.size (fun b hb hne => gg.block b hb (by intro e; injection e with e; exact hne e))⟩
end
def curC (A : Option Addr) (len cap : Nat) (cs : Array Value) : Prop := ∃ (i : Nat) (h : Int), cs = #[.slice A len cap, .int .i64 (i : Int), .int .i64 h] ∧ i ≤ len
section
variable {B g len cap : Nat} {A : Option Addr} {w W W' : World} {rs : List Res} {cs : Array Value}
theorem cur_start (d : CurAt B w g A len cap) : ∃ cs, curC A len cap cs ∧ Sep [g] w w [.blk g 143 cs] := by
 obtain ⟨h1, h2, h3, i, x, h4, h5⟩ := d
 exact ⟨_, ⟨i, x, rfl, h5⟩, rfl, rfl, rfl, Nat.le_refl _, fun _ _ _ => rfl, fun r hr => by rw [List.mem_singleton.1 hr]; exact h4, fun r hr b hb => by rw [List.mem_singleton.1 hr] at hb; injection hb with hb; subst hb; exact .inl (List.mem_singleton_self _), List.pairwise_singleton _ _⟩
theorem Sep.curAt (h : Sep [g] w W rs) (i : Nat) (hi : rs[i]? = some (.blk g 143 cs)) (d0 : CurAt B w g A len cap) (hc : curC A len cap cs) : CurAt B W g A len cap := by
 obtain ⟨h1, h2, h3, j, x, h4, h5⟩ := d0
 obtain ⟨k, y, rfl, hk⟩ := hc
 exact ⟨h1, h2, h3.keep fun b hb => h.block b (by have := h4.lt; omega) (by simp; omega), k, y, h.blk i hi, hk⟩
theorem Sep.curMoved (h : Sep [g] w W rs) (i : Nat) (hi : rs[i]? = some (.blk g 143 cs)) (gg : W.grownBy W' (some g)) (d : CurAt B W' g A len cap) : ∃ cs', curC A len cap cs' ∧ Sep [g] w W' (rs.set i (.blk g 143 cs')) := by
 obtain ⟨h1, h2, h3, j, x, h4, h5⟩ := d
 exact ⟨_, ⟨j, x, rfl, h5⟩, h.upd i _ _ hi g rfl (fun y hy => by injection hy with hy; exact hy.symm) h4 gg.os gg.tape gg.output gg.size (fun b hb hne => gg.block b hb (by intro e; injection e with e; exact hne e))⟩
end
theorem newPool_s (a b c : Int) (dd ee : Nat) (w : World) (hp : planB a b c dd ee = true) : Calls Tryz.prog 48 #[.agg #[.int .i64 a, .int .i64 b, .int .i64 c, .int .i64 dd, .int .i64 ee]] w fun r w' => ∃ (ts : List T7) (ks : List Int) (fs : List F2) (tn : Int) (st : Bool) (B0 B1 B2 : Option Addr) (e0 e1 e2 : Nat), r = .returned (.agg #[.slice B0 ts.length e0, .slice B1 ks.length e1, .slice B2 fs.length e2, .int .i64 tn, .bool st]) ∧ poolB a b c dd ee ts ks fs tn = true ∧ Sep [] w w' [rT ts.length B0 e0 ts, rK ks.length B1 e1 ks, rF fs.length B2 e2 fs] :=
 (sNewPool_any a b c dd ee w hp).mono fun r w' ⟨B0, B1, B2, e0, e1, e2, hr, ho, hb⟩ => ⟨_, _, _, _, _, B0, B1, B2, e0, e1, e2, hr, newPool_right hp, sepPool (Nat.le_refl _) hb ho⟩
theorem applied_s (a b c d e : Int) (ts : List T7) (ks : List Int) (fs : List F2) (A0 A1 A2 : Option Addr) (c0 c1 c2 : Nat) (tn : Int) (st : Bool) (wk k x y : Int) (w : World) (hp : poolB a b c d e ts ks fs tn = true) (h : InPool w ts ks fs A0 A1 A2) : Calls Tryz.prog 49 #[qF a b c d e, qP ts ks fs A0 A1 A2 c0 c1 c2 tn st, .int .i64 wk, .agg #[.int .i64 k, .int .i64 x, .int .i64 y]] w fun r w' => ∃ (ts2 : List T7) (ks2 : List Int) (fs2 : List F2) (tn2 : Int) (st2 : Bool) (rp ou : Int) (B0 B1 B2 : Option Addr) (e0 e1 e2 : Nat), r = .returned (.tuple #[.agg #[.slice B0 ts2.length e0, .slice B1 ks2.length e1, .slice B2 fs2.length e2, .int .i64 tn2, .bool st2], .agg #[.int .i64 rp, .int .i64 ou]]) ∧ poolB a b c d e ts2 ks2 fs2 tn2 = true ∧ Sep [] w w' [rT ts2.length B0 e0 ts2, rK ks2.length B1 e1 ks2, rF fs2.length B2 e2 fs2] := by
 unfold qF qP
 have hl := poolB_lens hp
 exact (applied_any a b c d e ts ks fs A0 A1 A2 c0 c1 c2 tn st wk k x y w (by omega) (by omega) (by omega) h).mono fun r w' ⟨B0, B1, B2, d0, d1, d2, hr, hM⟩ => ⟨_, _, _, _, _, _, _, B0, B1, B2, d0, d1, d2, hr, applied_right wk k x y hp, hM⟩
end Go.Proofs.YtfkdfkoigojciaaGreatDoor
