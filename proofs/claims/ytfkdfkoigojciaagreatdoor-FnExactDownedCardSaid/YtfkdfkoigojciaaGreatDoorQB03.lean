/- What a call that writes into rows of the caller's leaves as it was: all blocks but those between two marks. No condition. -/
import Derived.Test.YtfkdfkoigojciaaGreatDoorQB02
import Derived.Test.YtfkdfkoigojciaaGreatDoorQB01

namespace Go.Proofs.YtfkdfkoigojciaaGreatDoor
open Go.RowKit
set_option linter.unusedVariables false
set_option maxRecDepth 100000
def szM (n : Nat) (L : Int) : Int := if L < n then -1 else L - n
set_option maxHeartbeats 1000000 in
theorem szTaskS_any (A : Option Addr) (n c : Nat) (L : Int) (w : World) (hn : n ≤ 9223372036854775807) (h0 : 0 ≤ L) (h1 : L ≤ 1048576) :
 Calls Tryz.prog 99 #[.slice A n c, .int .i64 L] w fun r w' => r = .returned (.int .i64 (szM n L)) ∧ w = w' := by
 by_cases h : L < n
 ·rw [show szM n L = -1 from by simp [szM, h]]
  go_enter Tryz.func99, Tryz.ntmps99
  go_wp2
  go_ret
  exact ⟨rfl, rfl⟩
 ·rw [show szM n L = L - n from by simp [szM, h]]
  go_enter Tryz.func99, Tryz.ntmps99
  go_wp2
  go_ret
  exact ⟨rfl, rfl⟩
set_option maxHeartbeats 1000000 in
theorem szInt64S_any (A : Option Addr) (n c : Nat) (L : Int) (w : World) (hn : n ≤ 9223372036854775807) (h0 : 0 ≤ L) (h1 : L ≤ 1048576) :
 Calls Tryz.prog 100 #[.slice A n c, .int .i64 L] w fun r w' => r = .returned (.int .i64 (szM n L)) ∧ w = w' := by
 by_cases h : L < n
 ·rw [show szM n L = -1 from by simp [szM, h]]
  go_enter Tryz.func100, Tryz.ntmps100
  go_wp2
  go_ret
  exact ⟨rfl, rfl⟩
 ·rw [show szM n L = L - n from by simp [szM, h]]
  go_enter Tryz.func100, Tryz.ntmps100
  go_wp2
  go_ret
  exact ⟨rfl, rfl⟩
set_option maxHeartbeats 1000000 in
theorem szFutureS_any (A : Option Addr) (n c : Nat) (L : Int) (w : World) (hn : n ≤ 9223372036854775807) (h0 : 0 ≤ L) (h1 : L ≤ 1048576) :
 Calls Tryz.prog 101 #[.slice A n c, .int .i64 L] w fun r w' => r = .returned (.int .i64 (szM n L)) ∧ w = w' := by
 by_cases h : L < n
 ·rw [show szM n L = -1 from by simp [szM, h]]
  go_enter Tryz.func101, Tryz.ntmps101
  go_wp2
  go_ret
  exact ⟨rfl, rfl⟩
 ·rw [show szM n L = L - n from by simp [szM, h]]
  go_enter Tryz.func101, Tryz.ntmps101
  go_wp2
  go_ret
  exact ⟨rfl, rfl⟩
def szPoolM (n0 n1 n2 : Nat) : Int := if n0 + n1 + n2 ≤ 1048576 then 1048576 - ((n0 : Int) + n1 + n2) else -1
theorem szM_neg {n : Nat} {L : Int} (h : L < n) : szM n L = -1 := by simp [szM, h]
theorem szM_pos {n : Nat} {L : Int} (h : ¬ L < n) : szM n L = L - n := by simp [szM, h]
set_option maxHeartbeats 2000000 in
theorem szPool_any (A0 A1 A2 : Option Addr) (n0 c0 n1 c1 n2 c2 : Nat) (tn : Int) (st : Bool) (w : World) (h0 : n0 ≤ 9223372036854775807) (h1 : n1 ≤ 9223372036854775807) (h2 : n2 ≤ 9223372036854775807) :
 Calls Tryz.prog 40 #[.agg #[.slice A0 n0 c0, .slice A1 n1 c1, .slice A2 n2 c2, .int .i64 tn, .bool st], .int .i64 1048576] w fun r w' => r = .returned (.int .i64 (szPoolM n0 n1 n2)) ∧ Below w.heap.size w w' := by
 by_cases k0 : (1048576 : Int) < n0
 ·rw [show szPoolM n0 n1 n2 = -1 from by simp [szPoolM]; omega]
  go_enter Tryz.func40, Tryz.ntmps40
  go_wp2_with fail
  go_call (szTaskS_any A0 n0 c0 1048576 _ h0 (by omega) (by omega)) as r w1 ⟨rfl, rfl⟩
  rw [szM_neg k0]
  go_wp2_with fail
  go_ret
  exact ⟨rfl, by go_grown⟩
 by_cases k1 : (1048576 : Int) - n0 < n1
 ·rw [show szPoolM n0 n1 n2 = -1 from by simp [szPoolM]; omega]
  go_enter Tryz.func40, Tryz.ntmps40
  go_wp2_with fail
  go_call (szTaskS_any A0 n0 c0 1048576 _ h0 (by omega) (by omega)) as r w1 ⟨rfl, rfl⟩
  rw [szM_pos (n := n0) (L := 1048576) (by omega)]
  go_wp2_with fail
  go_call (szInt64S_any A1 n1 c1 (1048576 - n0) _ h1 (by omega) (by omega)) as r w1 ⟨rfl, rfl⟩
  rw [szM_neg k1]
  go_wp2_with fail
  go_ret
  exact ⟨rfl, by go_grown⟩
 by_cases k2 : (1048576 : Int) - n0 - n1 < n2
 ·rw [show szPoolM n0 n1 n2 = -1 from by simp [szPoolM]; omega]
  go_enter Tryz.func40, Tryz.ntmps40
  go_wp2_with fail
  go_call (szTaskS_any A0 n0 c0 1048576 _ h0 (by omega) (by omega)) as r w1 ⟨rfl, rfl⟩
  rw [szM_pos (n := n0) (L := 1048576) (by omega)]
  go_wp2_with fail
  go_call (szInt64S_any A1 n1 c1 (1048576 - n0) _ h1 (by omega) (by omega)) as r w1 ⟨rfl, rfl⟩
  rw [szM_pos (n := n1) (L := 1048576 - n0) (by omega)]
  go_wp2_with fail
  go_call (szFutureS_any A2 n2 c2 (1048576 - n0 - n1) _ h2 (by omega) (by omega)) as r w1 ⟨rfl, rfl⟩
  rw [szM_neg k2]
  go_wp2_with fail
  go_ret
  exact ⟨rfl, by go_grown⟩
 rw [show szPoolM n0 n1 n2 = 1048576 - n0 - n1 - n2 from by simp [szPoolM]; omega]
 go_enter Tryz.func40, Tryz.ntmps40
 go_wp2_with fail
 go_call (szTaskS_any A0 n0 c0 1048576 _ h0 (by omega) (by omega)) as r w1 ⟨rfl, rfl⟩
 rw [szM_pos (n := n0) (L := 1048576) (by omega)]
 go_wp2_with fail
 go_call (szInt64S_any A1 n1 c1 (1048576 - n0) _ h1 (by omega) (by omega)) as r w1 ⟨rfl, rfl⟩
 rw [szM_pos (n := n1) (L := 1048576 - n0) (by omega)]
 go_wp2_with fail
 go_call (szFutureS_any A2 n2 c2 (1048576 - n0 - n1) _ h2 (by omega) (by omega)) as r w1 ⟨rfl, rfl⟩
 rw [szM_pos (n := n2) (L := 1048576 - n0 - n1) (by omega)]
 go_wp2_with fail
 go_ret
 exact ⟨rfl, by go_grown⟩
/-- A pool whose lists are rows of the call's own, between two marks. -/
def OwnPool (w : World) (lo hi : Nat) (ts : List T7) (ks : List Int) (fs : List F2) (A0 A1 A2 : Option Addr) (c0 c1 c2 : Nat) : Prop :=
 OwnR w lo hi 45 7 (.slice A0 ts.length c0) ts.length (tcells ts) ∧ OwnR w lo hi 2 1 (.slice A1 ks.length c1) ks.length (icells ks) ∧ OwnR w lo hi 103 2 (.slice A2 fs.length c2) fs.length (fcells fs)
/-- A pool that can be read. -/
def InPool (w : World) (ts : List T7) (ks : List Int) (fs : List F2) (A0 A1 A2 : Option Addr) : Prop := Row w A0 (tcells ts) ∧ Row w A1 (icells ks) ∧ Row w A2 (fcells fs)
section
variable {w w' : World} {lo hi : Nat} {ts : List T7} {ks : List Int} {fs : List F2} {A0 A1 A2 : Option Addr} {c0 c1 c2 : Nat}
theorem OwnPool.reads (h : OwnPool w lo hi ts ks fs A0 A1 A2 c0 c1 c2) : InPool w ts ks fs A0 A1 A2 := ⟨h.1.row, h.2.1.row, h.2.2.row⟩
theorem OwnPool.below (h : OwnPool w lo hi ts ks fs A0 A1 A2 c0 c1 c2) (hb : Below w.heap.size w w') : OwnPool w' lo hi ts ks fs A0 A1 A2 c0 c1 c2 := ⟨h.1.below hb, h.2.1.below hb, h.2.2.below hb⟩
theorem OwnPool.alloc (h : OwnPool w lo hi ts ks fs A0 A1 A2 c0 c1 c2) (o : Obj) : OwnPool (w.alloc o) lo hi ts ks fs A0 A1 A2 c0 c1 c2 := ⟨h.1.alloc o, h.2.1.alloc o, h.2.2.alloc o⟩
theorem OwnPool.wide {l2 h2 : Nat} (h : OwnPool w lo hi ts ks fs A0 A1 A2 c0 c1 c2) (hl : l2 ≤ lo) (hh : hi ≤ h2) : OwnPool w l2 h2 ts ks fs A0 A1 A2 c0 c1 c2 := ⟨h.1.wide hl hh, h.2.1.wide hl hh, h.2.2.wide hl hh⟩
theorem OwnPool.store (h : OwnPool w lo hi ts ks fs A0 A1 A2 c0 c1 c2) {p : Addr} (hp : p.block < lo ∨ hi ≤ p.block) (u : Value) : OwnPool (w.setCell p u) lo hi ts ks fs A0 A1 A2 c0 c1 c2 := ⟨h.1.store hp u, h.2.1.store hp u, h.2.2.store hp u⟩
theorem InPool.below (h : InPool w ts ks fs A0 A1 A2) (hb : Below w.heap.size w w') : InPool w' ts ks fs A0 A1 A2 := ⟨Row.below h.1 hb, Row.below h.2.1 hb, Row.below h.2.2 hb⟩
end
/-- What a function that makes a pool leaves. -/
def MadePool (w : World) (ts : List T7) (ks : List Int) (fs : List F2) (tn : Int) (st : Bool) (r : Ending) (w' : World) : Prop :=
 ∃ (A0 A1 A2 : Option Addr) (c0 c1 c2 : Nat), r = .returned (.agg #[.slice A0 ts.length c0, .slice A1 ks.length c1, .slice A2 fs.length c2, .int .i64 tn, .bool st]) ∧ OwnPool w' w.heap.size w'.heap.size ts ks fs A0 A1 A2 c0 c1 c2 ∧ Below w.heap.size w w'
set_option maxHeartbeats 2000000 in
theorem toPool_any (ts : List T7) (ks : List Int) (fs : List F2) (A0 A1 A2 : Option Addr) (c0 c1 c2 : Nat) (tn : Int) (st : Bool) (w : World) (hl : ts.length + ks.length + fs.length ≤ 1048576) (h : InPool w ts ks fs A0 A1 A2) :
 Calls Tryz.prog 42 #[.agg #[.slice A0 ts.length c0, .slice A1 ks.length c1, .slice A2 fs.length c2, .int .i64 tn, .bool st]] w (MadePool w ts ks fs tn st) := by
 have H := hide h
 clear h
 go_enter Tryz.func42, Tryz.ntmps42
 go_wp2_with fail
 have G := Below.refl w.heap.size w
 have kP := Blk.new w 59 #[.slice A0 ts.length c0, .slice A1 ks.length c1, .slice A2 fs.length c2, .int .i64 tn, .bool st]
 have hbs := G.size
 replace G := G.alloc (by omega) (.cells #[.slice A0 ts.length c0, .slice A1 ks.length c1, .slice A2 fs.length c2, .int .i64 tn, .bool st] 59)
 have z1 : (w.alloc (.cells #[.slice A0 ts.length c0, .slice A1 ks.length c1, .slice A2 fs.length c2, .int .i64 tn, .bool st] 59)).heap.size = w.heap.size + 1 := by simp
 clear hbs
 generalize w.alloc (.cells #[.slice A0 ts.length c0, .slice A1 ks.length c1, .slice A2 fs.length c2, .int .i64 tn, .bool st] 59) = W1 at kP G z1 ⊢
 have kR : Blk (W1.alloc (.cells #[.slice none 0 0, .slice none 0 0, .slice none 0 0, .int .i64 0, .bool false] 35)) (w.heap.size + 1) 35 #[.slice none 0 0, .slice none 0 0, .slice none 0 0, .int .i64 0, .bool false] := by
  have h := Blk.new W1 35 #[.slice none 0 0, .slice none 0 0, .slice none 0 0, .int .i64 0, .bool false]
  rw [show W1.heap.size = w.heap.size + 1 by omega] at h
  exact h
 replace kP := kP.alloc (.cells #[.slice none 0 0, .slice none 0 0, .slice none 0 0, .int .i64 0, .bool false] 35)
 have hbs := G.size
 replace G := G.alloc (by omega) (.cells #[.slice none 0 0, .slice none 0 0, .slice none 0 0, .int .i64 0, .bool false] 35)
 have z2 : (W1.alloc (.cells #[.slice none 0 0, .slice none 0 0, .slice none 0 0, .int .i64 0, .bool false] 35)).heap.size = W1.heap.size + 1 := by simp
 clear hbs
 generalize W1.alloc (.cells #[.slice none 0 0, .slice none 0 0, .slice none 0 0, .int .i64 0, .bool false] 35) = W2 at kP kR G z2 ⊢
 have kO : Blk (W2.alloc (.cells #[.slice none 0 0, .slice none 0 0, .slice none 0 0, .int .i64 0, .bool false] 35)) (w.heap.size + 2) 35 #[.slice none 0 0, .slice none 0 0, .slice none 0 0, .int .i64 0, .bool false] := by
  have h := Blk.new W2 35 #[.slice none 0 0, .slice none 0 0, .slice none 0 0, .int .i64 0, .bool false]
  rw [show W2.heap.size = w.heap.size + 2 by omega] at h
  exact h
 replace kP := kP.alloc (.cells #[.slice none 0 0, .slice none 0 0, .slice none 0 0, .int .i64 0, .bool false] 35)
 replace kR := kR.alloc (.cells #[.slice none 0 0, .slice none 0 0, .slice none 0 0, .int .i64 0, .bool false] 35)
 have hbs := G.size
 replace G := G.alloc (by omega) (.cells #[.slice none 0 0, .slice none 0 0, .slice none 0 0, .int .i64 0, .bool false] 35)
 have z3 : (W2.alloc (.cells #[.slice none 0 0, .slice none 0 0, .slice none 0 0, .int .i64 0, .bool false] 35)).heap.size = W2.heap.size + 1 := by simp
 clear hbs
 generalize W2.alloc (.cells #[.slice none 0 0, .slice none 0 0, .slice none 0 0, .int .i64 0, .bool false] 35) = W3 at kP kR kO G z3 ⊢
 go_call (toTaskS_any ts A0 c0 _ (by omega) ((H.out.1).below G)) as r W4 ⟨B0, rfl, own0, g1⟩
 have hbs := G.size
 replace kP := kP.below g1 kP.lt
 replace kR := kR.below g1 kR.lt
 replace kO := kO.below g1 kO.lt
 replace G := G.trans (g1.mono (by omega))
 have z4 := g1.size
 clear g1 hbs
 have ro0 := OwnR.of own0 (Nat.le_refl _)
 obtain ⟨tP, qP0, fP0, qP1, fP1, qP2, fP2, qP3, fP3, qP4, fP4⟩ := kP.f5
 obtain ⟨tR, qR0, fR0, qR1, fR1, qR2, fR2, qR3, fR3, qR4, fR4⟩ := kR.f5
 obtain ⟨tO, qO0, fO0, qO1, fO1, qO2, fO2, qO3, fO3, qO4, fO4⟩ := kO.f5
 go_wp2_with fail
 clear tP qP0 fP0 qP1 fP1 qP2 fP2 qP3 fP3 qP4 fP4 tR qR0 fR0 qR1 fR1 qR2 fR2 qR3 fR3 qR4 fR4 tO qO0 fO0 qO1 fO1 qO2 fO2 qO3 fO3 qO4 fO4
 replace kP := kP.far (p := ⟨w.heap.size + 2, 0, none⟩) (show w.heap.size ≠ w.heap.size + 2 by omega) (.slice B0 ts.length ts.length)
 replace kR := kR.far (p := ⟨w.heap.size + 2, 0, none⟩) (show w.heap.size + 1 ≠ w.heap.size + 2 by omega) (.slice B0 ts.length ts.length)
 replace kO : Blk (W4.setCell ⟨w.heap.size + 2, 0, none⟩ (.slice B0 ts.length ts.length)) (w.heap.size + 2) 35 #[.slice B0 ts.length ts.length, .slice none 0 0, .slice none 0 0, .int .i64 0, .bool false] := kO.set_ 0 (.slice B0 ts.length ts.length)
 replace ro0 := ro0.store (p := ⟨w.heap.size + 2, 0, none⟩) (show w.heap.size + 2 < W3.heap.size ∨ W4.heap.size ≤ w.heap.size + 2 by omega) (.slice B0 ts.length ts.length)
 replace G : Below w.heap.size w (W4.setCell ⟨w.heap.size + 2, 0, none⟩ (.slice B0 ts.length ts.length)) := Below.setCell G (show w.heap.size ≤ w.heap.size + 2 by omega) _
 have z5 : (W4.setCell ⟨w.heap.size + 2, 0, none⟩ (.slice B0 ts.length ts.length)).heap.size = W4.heap.size := by simp [World.setCell]
 generalize W4.setCell ⟨w.heap.size + 2, 0, none⟩ (.slice B0 ts.length ts.length) = W5 at kP kR kO ro0 G z5 ⊢
 obtain ⟨tP, qP0, fP0, qP1, fP1, qP2, fP2, qP3, fP3, qP4, fP4⟩ := kP.f5
 obtain ⟨tR, qR0, fR0, qR1, fR1, qR2, fR2, qR3, fR3, qR4, fR4⟩ := kR.f5
 obtain ⟨tO, qO0, fO0, qO1, fO1, qO2, fO2, qO3, fO3, qO4, fO4⟩ := kO.f5
 go_wp2_with fail
 go_call (toInt64S_any ks A1 c1 _ (by omega) ((H.out.2.1).below G)) as r W6 ⟨B1, rfl, own1, g1⟩
 clear tP qP0 fP0 qP1 fP1 qP2 fP2 qP3 fP3 qP4 fP4 tR qR0 fR0 qR1 fR1 qR2 fR2 qR3 fR3 qR4 fR4 tO qO0 fO0 qO1 fO1 qO2 fO2 qO3 fO3 qO4 fO4
 have hbs := G.size
 replace kP := kP.below g1 kP.lt
 replace kR := kR.below g1 kR.lt
 replace kO := kO.below g1 kO.lt
 replace ro0 := ro0.below g1
 replace G := G.trans (g1.mono (by omega))
 have z6 := g1.size
 clear g1 hbs
 have ro1 := OwnR.of own1 (Nat.le_refl _)
 obtain ⟨tP, qP0, fP0, qP1, fP1, qP2, fP2, qP3, fP3, qP4, fP4⟩ := kP.f5
 obtain ⟨tR, qR0, fR0, qR1, fR1, qR2, fR2, qR3, fR3, qR4, fR4⟩ := kR.f5
 obtain ⟨tO, qO0, fO0, qO1, fO1, qO2, fO2, qO3, fO3, qO4, fO4⟩ := kO.f5
 go_wp2_with fail
 clear tP qP0 fP0 qP1 fP1 qP2 fP2 qP3 fP3 qP4 fP4 tR qR0 fR0 qR1 fR1 qR2 fR2 qR3 fR3 qR4 fR4 tO qO0 fO0 qO1 fO1 qO2 fO2 qO3 fO3 qO4 fO4
 replace kP := kP.far (p := ⟨w.heap.size + 2, 1, none⟩) (show w.heap.size ≠ w.heap.size + 2 by omega) (.slice B1 ks.length ks.length)
 replace kR := kR.far (p := ⟨w.heap.size + 2, 1, none⟩) (show w.heap.size + 1 ≠ w.heap.size + 2 by omega) (.slice B1 ks.length ks.length)
 replace kO : Blk (W6.setCell ⟨w.heap.size + 2, 1, none⟩ (.slice B1 ks.length ks.length)) (w.heap.size + 2) 35 #[.slice B0 ts.length ts.length, .slice B1 ks.length ks.length, .slice none 0 0, .int .i64 0, .bool false] := kO.set_ 1 (.slice B1 ks.length ks.length)
 replace ro0 := ro0.store (p := ⟨w.heap.size + 2, 1, none⟩) (show w.heap.size + 2 < W3.heap.size ∨ W4.heap.size ≤ w.heap.size + 2 by omega) (.slice B1 ks.length ks.length)
 replace ro1 := ro1.store (p := ⟨w.heap.size + 2, 1, none⟩) (show w.heap.size + 2 < W5.heap.size ∨ W6.heap.size ≤ w.heap.size + 2 by omega) (.slice B1 ks.length ks.length)
 replace G : Below w.heap.size w (W6.setCell ⟨w.heap.size + 2, 1, none⟩ (.slice B1 ks.length ks.length)) := Below.setCell G (show w.heap.size ≤ w.heap.size + 2 by omega) _
 have z7 : (W6.setCell ⟨w.heap.size + 2, 1, none⟩ (.slice B1 ks.length ks.length)).heap.size = W6.heap.size := by simp [World.setCell]
 generalize W6.setCell ⟨w.heap.size + 2, 1, none⟩ (.slice B1 ks.length ks.length) = W7 at kP kR kO ro0 ro1 G z7 ⊢
 obtain ⟨tP, qP0, fP0, qP1, fP1, qP2, fP2, qP3, fP3, qP4, fP4⟩ := kP.f5
 obtain ⟨tR, qR0, fR0, qR1, fR1, qR2, fR2, qR3, fR3, qR4, fR4⟩ := kR.f5
 obtain ⟨tO, qO0, fO0, qO1, fO1, qO2, fO2, qO3, fO3, qO4, fO4⟩ := kO.f5
 go_wp2_with fail
 go_call (toFutureS_any fs A2 c2 _ (by omega) ((H.out.2.2).below G)) as r W8 ⟨B2, rfl, own2, g1⟩
 clear tP qP0 fP0 qP1 fP1 qP2 fP2 qP3 fP3 qP4 fP4 tR qR0 fR0 qR1 fR1 qR2 fR2 qR3 fR3 qR4 fR4 tO qO0 fO0 qO1 fO1 qO2 fO2 qO3 fO3 qO4 fO4
 have hbs := G.size
 replace kP := kP.below g1 kP.lt
 replace kR := kR.below g1 kR.lt
 replace kO := kO.below g1 kO.lt
 replace ro0 := ro0.below g1
 replace ro1 := ro1.below g1
 replace G := G.trans (g1.mono (by omega))
 have z8 := g1.size
 clear g1 hbs
 have ro2 := OwnR.of own2 (Nat.le_refl _)
 obtain ⟨tP, qP0, fP0, qP1, fP1, qP2, fP2, qP3, fP3, qP4, fP4⟩ := kP.f5
 obtain ⟨tR, qR0, fR0, qR1, fR1, qR2, fR2, qR3, fR3, qR4, fR4⟩ := kR.f5
 obtain ⟨tO, qO0, fO0, qO1, fO1, qO2, fO2, qO3, fO3, qO4, fO4⟩ := kO.f5
 go_wp2_with fail
 clear tP qP0 fP0 qP1 fP1 qP2 fP2 qP3 fP3 qP4 fP4 tR qR0 fR0 qR1 fR1 qR2 fR2 qR3 fR3 qR4 fR4 tO qO0 fO0 qO1 fO1 qO2 fO2 qO3 fO3 qO4 fO4
 replace kP := kP.far (p := ⟨w.heap.size + 2, 2, none⟩) (show w.heap.size ≠ w.heap.size + 2 by omega) (.slice B2 fs.length fs.length)
 replace kR := kR.far (p := ⟨w.heap.size + 2, 2, none⟩) (show w.heap.size + 1 ≠ w.heap.size + 2 by omega) (.slice B2 fs.length fs.length)
 replace kO : Blk (W8.setCell ⟨w.heap.size + 2, 2, none⟩ (.slice B2 fs.length fs.length)) (w.heap.size + 2) 35 #[.slice B0 ts.length ts.length, .slice B1 ks.length ks.length, .slice B2 fs.length fs.length, .int .i64 0, .bool false] := kO.set_ 2 (.slice B2 fs.length fs.length)
 replace ro0 := ro0.store (p := ⟨w.heap.size + 2, 2, none⟩) (show w.heap.size + 2 < W3.heap.size ∨ W4.heap.size ≤ w.heap.size + 2 by omega) (.slice B2 fs.length fs.length)
 replace ro1 := ro1.store (p := ⟨w.heap.size + 2, 2, none⟩) (show w.heap.size + 2 < W5.heap.size ∨ W6.heap.size ≤ w.heap.size + 2 by omega) (.slice B2 fs.length fs.length)
 replace ro2 := ro2.store (p := ⟨w.heap.size + 2, 2, none⟩) (show w.heap.size + 2 < W7.heap.size ∨ W8.heap.size ≤ w.heap.size + 2 by omega) (.slice B2 fs.length fs.length)
 replace G : Below w.heap.size w (W8.setCell ⟨w.heap.size + 2, 2, none⟩ (.slice B2 fs.length fs.length)) := Below.setCell G (show w.heap.size ≤ w.heap.size + 2 by omega) _
 have z9 : (W8.setCell ⟨w.heap.size + 2, 2, none⟩ (.slice B2 fs.length fs.length)).heap.size = W8.heap.size := by simp [World.setCell]
 generalize W8.setCell ⟨w.heap.size + 2, 2, none⟩ (.slice B2 fs.length fs.length) = W9 at kP kR kO ro0 ro1 ro2 G z9 ⊢
 obtain ⟨tP, qP0, fP0, qP1, fP1, qP2, fP2, qP3, fP3, qP4, fP4⟩ := kP.f5
 obtain ⟨tR, qR0, fR0, qR1, fR1, qR2, fR2, qR3, fR3, qR4, fR4⟩ := kR.f5
 obtain ⟨tO, qO0, fO0, qO1, fO1, qO2, fO2, qO3, fO3, qO4, fO4⟩ := kO.f5
 go_wp2_with fail
 clear tP qP0 fP0 qP1 fP1 qP2 fP2 qP3 fP3 qP4 fP4 tR qR0 fR0 qR1 fR1 qR2 fR2 qR3 fR3 qR4 fR4 tO qO0 fO0 qO1 fO1 qO2 fO2 qO3 fO3 qO4 fO4
 replace kP := kP.far (p := ⟨w.heap.size + 2, 3, none⟩) (show w.heap.size ≠ w.heap.size + 2 by omega) (.int .i64 tn)
 replace kR := kR.far (p := ⟨w.heap.size + 2, 3, none⟩) (show w.heap.size + 1 ≠ w.heap.size + 2 by omega) (.int .i64 tn)
 replace kO : Blk (W9.setCell ⟨w.heap.size + 2, 3, none⟩ (.int .i64 tn)) (w.heap.size + 2) 35 #[.slice B0 ts.length ts.length, .slice B1 ks.length ks.length, .slice B2 fs.length fs.length, .int .i64 tn, .bool false] := kO.set_ 3 (.int .i64 tn)
 replace ro0 := ro0.store (p := ⟨w.heap.size + 2, 3, none⟩) (show w.heap.size + 2 < W3.heap.size ∨ W4.heap.size ≤ w.heap.size + 2 by omega) (.int .i64 tn)
 replace ro1 := ro1.store (p := ⟨w.heap.size + 2, 3, none⟩) (show w.heap.size + 2 < W5.heap.size ∨ W6.heap.size ≤ w.heap.size + 2 by omega) (.int .i64 tn)
 replace ro2 := ro2.store (p := ⟨w.heap.size + 2, 3, none⟩) (show w.heap.size + 2 < W7.heap.size ∨ W8.heap.size ≤ w.heap.size + 2 by omega) (.int .i64 tn)
 replace G : Below w.heap.size w (W9.setCell ⟨w.heap.size + 2, 3, none⟩ (.int .i64 tn)) := Below.setCell G (show w.heap.size ≤ w.heap.size + 2 by omega) _
 have z10 : (W9.setCell ⟨w.heap.size + 2, 3, none⟩ (.int .i64 tn)).heap.size = W9.heap.size := by simp [World.setCell]
 generalize W9.setCell ⟨w.heap.size + 2, 3, none⟩ (.int .i64 tn) = W10 at kP kR kO ro0 ro1 ro2 G z10 ⊢
 obtain ⟨tP, qP0, fP0, qP1, fP1, qP2, fP2, qP3, fP3, qP4, fP4⟩ := kP.f5
 obtain ⟨tR, qR0, fR0, qR1, fR1, qR2, fR2, qR3, fR3, qR4, fR4⟩ := kR.f5
 obtain ⟨tO, qO0, fO0, qO1, fO1, qO2, fO2, qO3, fO3, qO4, fO4⟩ := kO.f5
 go_wp2_with fail
 clear tP qP0 fP0 qP1 fP1 qP2 fP2 qP3 fP3 qP4 fP4 tR qR0 fR0 qR1 fR1 qR2 fR2 qR3 fR3 qR4 fR4 tO qO0 fO0 qO1 fO1 qO2 fO2 qO3 fO3 qO4 fO4
 replace kP := kP.far (p := ⟨w.heap.size + 2, 4, none⟩) (show w.heap.size ≠ w.heap.size + 2 by omega) (.bool st)
 replace kR := kR.far (p := ⟨w.heap.size + 2, 4, none⟩) (show w.heap.size + 1 ≠ w.heap.size + 2 by omega) (.bool st)
 replace kO : Blk (W10.setCell ⟨w.heap.size + 2, 4, none⟩ (.bool st)) (w.heap.size + 2) 35 #[.slice B0 ts.length ts.length, .slice B1 ks.length ks.length, .slice B2 fs.length fs.length, .int .i64 tn, .bool st] := kO.set_ 4 (.bool st)
 replace ro0 := ro0.store (p := ⟨w.heap.size + 2, 4, none⟩) (show w.heap.size + 2 < W3.heap.size ∨ W4.heap.size ≤ w.heap.size + 2 by omega) (.bool st)
 replace ro1 := ro1.store (p := ⟨w.heap.size + 2, 4, none⟩) (show w.heap.size + 2 < W5.heap.size ∨ W6.heap.size ≤ w.heap.size + 2 by omega) (.bool st)
 replace ro2 := ro2.store (p := ⟨w.heap.size + 2, 4, none⟩) (show w.heap.size + 2 < W7.heap.size ∨ W8.heap.size ≤ w.heap.size + 2 by omega) (.bool st)
 replace G : Below w.heap.size w (W10.setCell ⟨w.heap.size + 2, 4, none⟩ (.bool st)) := Below.setCell G (show w.heap.size ≤ w.heap.size + 2 by omega) _
 have z11 : (W10.setCell ⟨w.heap.size + 2, 4, none⟩ (.bool st)).heap.size = W10.heap.size := by simp [World.setCell]
 generalize W10.setCell ⟨w.heap.size + 2, 4, none⟩ (.bool st) = W11 at kP kR kO ro0 ro1 ro2 G z11 ⊢
 obtain ⟨tP, qP0, fP0, qP1, fP1, qP2, fP2, qP3, fP3, qP4, fP4⟩ := kP.f5
 obtain ⟨tR, qR0, fR0, qR1, fR1, qR2, fR2, qR3, fR3, qR4, fR4⟩ := kR.f5
 obtain ⟨tO, qO0, fO0, qO1, fO1, qO2, fO2, qO3, fO3, qO4, fO4⟩ := kO.f5
 go_wp2_with fail
 clear tP qP0 fP0 qP1 fP1 qP2 fP2 qP3 fP3 qP4 fP4 tR qR0 fR0 qR1 fR1 qR2 fR2 qR3 fR3 qR4 fR4 tO qO0 fO0 qO1 fO1 qO2 fO2 qO3 fO3 qO4 fO4
 replace kP := kP.far (p := ⟨w.heap.size + 1, 0, none⟩) (show w.heap.size ≠ w.heap.size + 1 by omega) (.slice B0 ts.length ts.length)
 replace kO := kO.far (p := ⟨w.heap.size + 1, 0, none⟩) (show w.heap.size + 2 ≠ w.heap.size + 1 by omega) (.slice B0 ts.length ts.length)
 replace kR : Blk (W11.setCell ⟨w.heap.size + 1, 0, none⟩ (.slice B0 ts.length ts.length)) (w.heap.size + 1) 35 #[.slice B0 ts.length ts.length, .slice none 0 0, .slice none 0 0, .int .i64 0, .bool false] := kR.set_ 0 (.slice B0 ts.length ts.length)
 replace ro0 := ro0.store (p := ⟨w.heap.size + 1, 0, none⟩) (show w.heap.size + 1 < W3.heap.size ∨ W4.heap.size ≤ w.heap.size + 1 by omega) (.slice B0 ts.length ts.length)
 replace ro1 := ro1.store (p := ⟨w.heap.size + 1, 0, none⟩) (show w.heap.size + 1 < W5.heap.size ∨ W6.heap.size ≤ w.heap.size + 1 by omega) (.slice B0 ts.length ts.length)
 replace ro2 := ro2.store (p := ⟨w.heap.size + 1, 0, none⟩) (show w.heap.size + 1 < W7.heap.size ∨ W8.heap.size ≤ w.heap.size + 1 by omega) (.slice B0 ts.length ts.length)
 replace G : Below w.heap.size w (W11.setCell ⟨w.heap.size + 1, 0, none⟩ (.slice B0 ts.length ts.length)) := Below.setCell G (show w.heap.size ≤ w.heap.size + 1 by omega) _
 have z12 : (W11.setCell ⟨w.heap.size + 1, 0, none⟩ (.slice B0 ts.length ts.length)).heap.size = W11.heap.size := by simp [World.setCell]
 generalize W11.setCell ⟨w.heap.size + 1, 0, none⟩ (.slice B0 ts.length ts.length) = W12 at kP kR kO ro0 ro1 ro2 G z12 ⊢
 replace kP := kP.far (p := ⟨w.heap.size + 1, 1, none⟩) (show w.heap.size ≠ w.heap.size + 1 by omega) (.slice B1 ks.length ks.length)
 replace kO := kO.far (p := ⟨w.heap.size + 1, 1, none⟩) (show w.heap.size + 2 ≠ w.heap.size + 1 by omega) (.slice B1 ks.length ks.length)
 replace kR : Blk (W12.setCell ⟨w.heap.size + 1, 1, none⟩ (.slice B1 ks.length ks.length)) (w.heap.size + 1) 35 #[.slice B0 ts.length ts.length, .slice B1 ks.length ks.length, .slice none 0 0, .int .i64 0, .bool false] := kR.set_ 1 (.slice B1 ks.length ks.length)
 replace ro0 := ro0.store (p := ⟨w.heap.size + 1, 1, none⟩) (show w.heap.size + 1 < W3.heap.size ∨ W4.heap.size ≤ w.heap.size + 1 by omega) (.slice B1 ks.length ks.length)
 replace ro1 := ro1.store (p := ⟨w.heap.size + 1, 1, none⟩) (show w.heap.size + 1 < W5.heap.size ∨ W6.heap.size ≤ w.heap.size + 1 by omega) (.slice B1 ks.length ks.length)
 replace ro2 := ro2.store (p := ⟨w.heap.size + 1, 1, none⟩) (show w.heap.size + 1 < W7.heap.size ∨ W8.heap.size ≤ w.heap.size + 1 by omega) (.slice B1 ks.length ks.length)
 replace G : Below w.heap.size w (W12.setCell ⟨w.heap.size + 1, 1, none⟩ (.slice B1 ks.length ks.length)) := Below.setCell G (show w.heap.size ≤ w.heap.size + 1 by omega) _
 have z13 : (W12.setCell ⟨w.heap.size + 1, 1, none⟩ (.slice B1 ks.length ks.length)).heap.size = W12.heap.size := by simp [World.setCell]
 generalize W12.setCell ⟨w.heap.size + 1, 1, none⟩ (.slice B1 ks.length ks.length) = W13 at kP kR kO ro0 ro1 ro2 G z13 ⊢
 replace kP := kP.far (p := ⟨w.heap.size + 1, 2, none⟩) (show w.heap.size ≠ w.heap.size + 1 by omega) (.slice B2 fs.length fs.length)
 replace kO := kO.far (p := ⟨w.heap.size + 1, 2, none⟩) (show w.heap.size + 2 ≠ w.heap.size + 1 by omega) (.slice B2 fs.length fs.length)
 replace kR : Blk (W13.setCell ⟨w.heap.size + 1, 2, none⟩ (.slice B2 fs.length fs.length)) (w.heap.size + 1) 35 #[.slice B0 ts.length ts.length, .slice B1 ks.length ks.length, .slice B2 fs.length fs.length, .int .i64 0, .bool false] := kR.set_ 2 (.slice B2 fs.length fs.length)
 replace ro0 := ro0.store (p := ⟨w.heap.size + 1, 2, none⟩) (show w.heap.size + 1 < W3.heap.size ∨ W4.heap.size ≤ w.heap.size + 1 by omega) (.slice B2 fs.length fs.length)
 replace ro1 := ro1.store (p := ⟨w.heap.size + 1, 2, none⟩) (show w.heap.size + 1 < W5.heap.size ∨ W6.heap.size ≤ w.heap.size + 1 by omega) (.slice B2 fs.length fs.length)
 replace ro2 := ro2.store (p := ⟨w.heap.size + 1, 2, none⟩) (show w.heap.size + 1 < W7.heap.size ∨ W8.heap.size ≤ w.heap.size + 1 by omega) (.slice B2 fs.length fs.length)
 replace G : Below w.heap.size w (W13.setCell ⟨w.heap.size + 1, 2, none⟩ (.slice B2 fs.length fs.length)) := Below.setCell G (show w.heap.size ≤ w.heap.size + 1 by omega) _
 have z14 : (W13.setCell ⟨w.heap.size + 1, 2, none⟩ (.slice B2 fs.length fs.length)).heap.size = W13.heap.size := by simp [World.setCell]
 generalize W13.setCell ⟨w.heap.size + 1, 2, none⟩ (.slice B2 fs.length fs.length) = W14 at kP kR kO ro0 ro1 ro2 G z14 ⊢
 replace kP := kP.far (p := ⟨w.heap.size + 1, 3, none⟩) (show w.heap.size ≠ w.heap.size + 1 by omega) (.int .i64 tn)
 replace kO := kO.far (p := ⟨w.heap.size + 1, 3, none⟩) (show w.heap.size + 2 ≠ w.heap.size + 1 by omega) (.int .i64 tn)
 replace kR : Blk (W14.setCell ⟨w.heap.size + 1, 3, none⟩ (.int .i64 tn)) (w.heap.size + 1) 35 #[.slice B0 ts.length ts.length, .slice B1 ks.length ks.length, .slice B2 fs.length fs.length, .int .i64 tn, .bool false] := kR.set_ 3 (.int .i64 tn)
 replace ro0 := ro0.store (p := ⟨w.heap.size + 1, 3, none⟩) (show w.heap.size + 1 < W3.heap.size ∨ W4.heap.size ≤ w.heap.size + 1 by omega) (.int .i64 tn)
 replace ro1 := ro1.store (p := ⟨w.heap.size + 1, 3, none⟩) (show w.heap.size + 1 < W5.heap.size ∨ W6.heap.size ≤ w.heap.size + 1 by omega) (.int .i64 tn)
 replace ro2 := ro2.store (p := ⟨w.heap.size + 1, 3, none⟩) (show w.heap.size + 1 < W7.heap.size ∨ W8.heap.size ≤ w.heap.size + 1 by omega) (.int .i64 tn)
 replace G : Below w.heap.size w (W14.setCell ⟨w.heap.size + 1, 3, none⟩ (.int .i64 tn)) := Below.setCell G (show w.heap.size ≤ w.heap.size + 1 by omega) _
 have z15 : (W14.setCell ⟨w.heap.size + 1, 3, none⟩ (.int .i64 tn)).heap.size = W14.heap.size := by simp [World.setCell]
 generalize W14.setCell ⟨w.heap.size + 1, 3, none⟩ (.int .i64 tn) = W15 at kP kR kO ro0 ro1 ro2 G z15 ⊢
 replace kP := kP.far (p := ⟨w.heap.size + 1, 4, none⟩) (show w.heap.size ≠ w.heap.size + 1 by omega) (.bool st)
 replace kO := kO.far (p := ⟨w.heap.size + 1, 4, none⟩) (show w.heap.size + 2 ≠ w.heap.size + 1 by omega) (.bool st)
 replace kR : Blk (W15.setCell ⟨w.heap.size + 1, 4, none⟩ (.bool st)) (w.heap.size + 1) 35 #[.slice B0 ts.length ts.length, .slice B1 ks.length ks.length, .slice B2 fs.length fs.length, .int .i64 tn, .bool st] := kR.set_ 4 (.bool st)
 replace ro0 := ro0.store (p := ⟨w.heap.size + 1, 4, none⟩) (show w.heap.size + 1 < W3.heap.size ∨ W4.heap.size ≤ w.heap.size + 1 by omega) (.bool st)
 replace ro1 := ro1.store (p := ⟨w.heap.size + 1, 4, none⟩) (show w.heap.size + 1 < W5.heap.size ∨ W6.heap.size ≤ w.heap.size + 1 by omega) (.bool st)
 replace ro2 := ro2.store (p := ⟨w.heap.size + 1, 4, none⟩) (show w.heap.size + 1 < W7.heap.size ∨ W8.heap.size ≤ w.heap.size + 1 by omega) (.bool st)
 replace G : Below w.heap.size w (W15.setCell ⟨w.heap.size + 1, 4, none⟩ (.bool st)) := Below.setCell G (show w.heap.size ≤ w.heap.size + 1 by omega) _
 have z16 : (W15.setCell ⟨w.heap.size + 1, 4, none⟩ (.bool st)).heap.size = W15.heap.size := by simp [World.setCell]
 generalize W15.setCell ⟨w.heap.size + 1, 4, none⟩ (.bool st) = W16 at kP kR kO ro0 ro1 ro2 G z16 ⊢
 obtain ⟨tR, qR0, qR1, qR2, qR3, qR4⟩ := kR.q5
 exact bodyPost_ret (v := .agg #[.slice B0 ts.length ts.length, .slice B1 ks.length ks.length, .slice B2 fs.length fs.length, .int .i64 tn, .bool st]) (by simp [results, Tryz.results42, go_sem, qR0, qR1, qR2, qR3, qR4]) rfl ⟨B0, B1, B2, _, _, _, rfl, ⟨ro0.wide (by omega) (by omega), ro1.wide (by omega) (by omega), ro2.wide (by omega) (by omega)⟩, G⟩
set_option maxHeartbeats 1000000 in
theorem eqFuture_same (s : Bool) (v : Int) (w : World) :
 Calls Tryz.prog 157 #[.agg #[.bool s, .int .i64 v], .agg #[.bool s, .int .i64 v]] w fun r w' => r = .returned (.bool true) ∧ Below w.heap.size w w' := by
 go_enter Tryz.func157, Tryz.ntmps157
 go_wp2
 go_ret
 exact ⟨rfl, by go_grown⟩
set_option maxHeartbeats 1000000 in
theorem eqTaskS_same (ts : List T7) (A B : Option Addr) (c d : Nat) (w : World) (hlen : ts.length ≤ 1048576) (h0 : Row w A (tcells ts)) (h1 : Row w B (tcells ts)) :
 Calls Tryz.prog 105 #[.slice A ts.length c, .slice B ts.length d] w fun r w' => r = .returned (.bool true) ∧ Below w.heap.size w w' := by
 have H0 := hide h0
 have H1 := hide h1
 clear h0 h1
 go_enter Tryz.func105, Tryz.ntmps105
 go_wp2
 go_loopw [5] (fun i wr => ∃ (k : Nat), k ≤ ts.length ∧ i = .int .i64 k ∧ Below w.heap.size w wr) (fun i _ => ts.length - (intOf i).toNat)
 case atStart => exact ⟨0, Nat.zero_le _, rfl, by go_grown⟩
 case round =>
  obtain ⟨k, hk, rfl, hbel⟩ := hrel
  have hz := hbel.size
  by_cases hlt : k < ts.length
  ·obtain ⟨b, off, s, l, o, wt, on, v, t, rfl, _, hx, hb1, z0, z1, z2, z3, z4, z5, z6⟩ := (H0.out.below hbel).ts_at hlt
   obtain ⟨b2, off2, s', l', o', wt', on', v', t', rfl, _, hx2, hb2, y0, y1, y2, y3, y4, y5, y6⟩ := (H1.out.below hbel).ts_at hlt
   rw [hx] at hx2
   injection hx2 with hx2
   injection hx2 with u0 u1 u2 u3 u4 u5 u6
   subst u0 u1 u2 u3 u4 u5 u6
   clear hx
   have c0 := KeptW.cell (W0 := wr) (b := b) (o := off + k * 7) (z0)
   have e0 := KeptW.cell (W0 := wr) (b := b2) (o := off2 + k * 7) (y0)
   have c1 := KeptW.cell (W0 := wr) (b := b) (o := off + k * 7 + 1) (z1)
   have e1 := KeptW.cell (W0 := wr) (b := b2) (o := off2 + k * 7 + 1) (y1)
   have c2 := KeptW.cell (W0 := wr) (b := b) (o := off + k * 7 + 2) (z2)
   have e2 := KeptW.cell (W0 := wr) (b := b2) (o := off2 + k * 7 + 2) (y2)
   have c3 := KeptW.cell (W0 := wr) (b := b) (o := off + k * 7 + 3) (z3)
   have e3 := KeptW.cell (W0 := wr) (b := b2) (o := off2 + k * 7 + 3) (y3)
   have c4 := KeptW.cell (W0 := wr) (b := b) (o := off + k * 7 + 4) (z4)
   have e4 := KeptW.cell (W0 := wr) (b := b2) (o := off2 + k * 7 + 4) (y4)
   have c5 := KeptW.cell (W0 := wr) (b := b) (o := off + k * 7 + 5) (z5)
   have e5 := KeptW.cell (W0 := wr) (b := b2) (o := off2 + k * 7 + 5) (y5)
   have c6 := KeptW.cell (W0 := wr) (b := b) (o := off + k * 7 + 6) (z6)
   have e6 := KeptW.cell (W0 := wr) (b := b2) (o := off2 + k * 7 + 6) (y6)
   clear z0 y0 z1 y1 z2 y2 z3 y3 z4 y4 z5 y5 z6 y6
   go_wp2_with fail
   have hx0 := KeptW.mk'_w (Below.refl wr.heap.size wr)
   generalize KeptW.mk' (Below.refl wr.heap.size wr) = x at hx0
   rw [← hx0]
   clear hx0
   refine region_kept (by kernel_rfl) (by kernel_rfl) ?_
   repeat (go_big_quiet_step (first | (go_at_call 156; with_reducible exact (kept_call (eqTask_same s l o wt on v t _)))))
   refine wpQuiet_nil ?_
   rintro _ ⟨x, rfl⟩
   have hgx := hbel.trans (x.below.mono hz)
   go_wp2
   go_roundw
   case rel => exact ⟨k + 1, by omega, by go_num, hgx⟩
   case measure => simp [intOf]; omega
  ·go_wp2
   go_ret
   exact ⟨rfl, hbel⟩
set_option maxHeartbeats 1000000 in
theorem eqInt64S_same (ks : List Int) (A B : Option Addr) (c d : Nat) (w : World) (hlen : ks.length ≤ 1048576) (h0 : Row w A (icells ks)) (h1 : Row w B (icells ks)) :
 Calls Tryz.prog 106 #[.slice A ks.length c, .slice B ks.length d] w fun r w' => r = .returned (.bool true) ∧ Below w.heap.size w w' := by
 have H0 := hide h0
 have H1 := hide h1
 clear h0 h1
 go_enter Tryz.func106, Tryz.ntmps106
 go_wp2
 go_loopw [5] (fun i wr => ∃ (k : Nat), k ≤ ks.length ∧ i = .int .i64 k ∧ Below w.heap.size w wr) (fun i _ => ks.length - (intOf i).toNat)
 case atStart => exact ⟨0, Nat.zero_le _, rfl, by go_grown⟩
 case round =>
  obtain ⟨k, hk, rfl, hbel⟩ := hrel
  have hz := hbel.size
  by_cases hlt : k < ks.length
  ·obtain ⟨b, off, v, rfl, _, hx, hb1, z0⟩ := (H0.out.below hbel).ks_at hlt
   obtain ⟨b2, off2, v', rfl, _, hx2, hb2, y0⟩ := (H1.out.below hbel).ks_at hlt
   rw [hx] at hx2
   injection hx2 with hx2
   subst hx2
   clear hx
   have c0 := KeptW.cell (W0 := wr) (b := b) (o := off + k) (z0)
   have e0 := KeptW.cell (W0 := wr) (b := b2) (o := off2 + k) (y0)
   clear z0 y0
   go_wp2_with fail
   have hx0 := KeptW.mk'_w (Below.refl wr.heap.size wr)
   generalize KeptW.mk' (Below.refl wr.heap.size wr) = x at hx0
   rw [← hx0]
   clear hx0
   refine region_kept (by kernel_rfl) (by kernel_rfl) ?_
   repeat (go_big_quiet_step (fail))
   refine wpQuiet_nil ?_
   rintro _ ⟨x, rfl⟩
   have hgx := hbel.trans (x.below.mono hz)
   go_wp2
   go_roundw
   case rel => exact ⟨k + 1, by omega, by go_num, hgx⟩
   case measure => simp [intOf]; omega
  ·go_wp2
   go_ret
   exact ⟨rfl, hbel⟩
set_option maxHeartbeats 1000000 in
theorem eqFutureS_same (fs : List F2) (A B : Option Addr) (c d : Nat) (w : World) (hlen : fs.length ≤ 1048576) (h0 : Row w A (fcells fs)) (h1 : Row w B (fcells fs)) :
 Calls Tryz.prog 107 #[.slice A fs.length c, .slice B fs.length d] w fun r w' => r = .returned (.bool true) ∧ Below w.heap.size w w' := by
 have H0 := hide h0
 have H1 := hide h1
 clear h0 h1
 go_enter Tryz.func107, Tryz.ntmps107
 go_wp2
 go_loopw [5] (fun i wr => ∃ (k : Nat), k ≤ fs.length ∧ i = .int .i64 k ∧ Below w.heap.size w wr) (fun i _ => fs.length - (intOf i).toNat)
 case atStart => exact ⟨0, Nat.zero_le _, rfl, by go_grown⟩
 case round =>
  obtain ⟨k, hk, rfl, hbel⟩ := hrel
  have hz := hbel.size
  by_cases hlt : k < fs.length
  ·obtain ⟨b, off, s, v, rfl, _, hx, hb1, z0, z1⟩ := (H0.out.below hbel).fs_at hlt
   obtain ⟨b2, off2, s', v', rfl, _, hx2, hb2, y0, y1⟩ := (H1.out.below hbel).fs_at hlt
   rw [hx] at hx2
   injection hx2 with hx2
   injection hx2 with u0 u1
   subst u0 u1
   clear hx
   have c0 := KeptW.cell (W0 := wr) (b := b) (o := off + k * 2) (z0)
   have e0 := KeptW.cell (W0 := wr) (b := b2) (o := off2 + k * 2) (y0)
   have c1 := KeptW.cell (W0 := wr) (b := b) (o := off + k * 2 + 1) (z1)
   have e1 := KeptW.cell (W0 := wr) (b := b2) (o := off2 + k * 2 + 1) (y1)
   clear z0 y0 z1 y1
   go_wp2_with fail
   have hx0 := KeptW.mk'_w (Below.refl wr.heap.size wr)
   generalize KeptW.mk' (Below.refl wr.heap.size wr) = x at hx0
   rw [← hx0]
   clear hx0
   refine region_kept (by kernel_rfl) (by kernel_rfl) ?_
   repeat (go_big_quiet_step (first | (go_at_call 157; with_reducible exact (kept_call (eqFuture_same s v _)))))
   refine wpQuiet_nil ?_
   rintro _ ⟨x, rfl⟩
   have hgx := hbel.trans (x.below.mono hz)
   go_wp2
   go_roundw
   case rel => exact ⟨k + 1, by omega, by go_num, hgx⟩
   case measure => simp [intOf]; omega
  ·go_wp2
   go_ret
   exact ⟨rfl, hbel⟩
set_option maxHeartbeats 2000000 in
theorem eqPool_same (ts : List T7) (ks : List Int) (fs : List F2) (A0 A1 A2 : Option Addr) (c0 c1 c2 : Nat) (tn : Int) (st : Bool) (B0 B1 B2 : Option Addr) (d0 d1 d2 : Nat) (w : World) (hl : ts.length + ks.length + fs.length ≤ 1048576) (h : InPool w ts ks fs A0 A1 A2) (k : InPool w ts ks fs B0 B1 B2) :
 Calls Tryz.prog 43 #[.agg #[.slice A0 ts.length c0, .slice A1 ks.length c1, .slice A2 fs.length c2, .int .i64 tn, .bool st], .agg #[.slice B0 ts.length d0, .slice B1 ks.length d1, .slice B2 fs.length d2, .int .i64 tn, .bool st]] w fun r w' => r = .returned (.bool true) ∧ Below w.heap.size w w' := by
 have H := hide h
 have K := hide k
 clear h k
 go_enter Tryz.func43, Tryz.ntmps43
 go_wp2_with fail
 have G := Below.refl w.heap.size w
 have kP := Blk.new w 35 #[.slice A0 ts.length c0, .slice A1 ks.length c1, .slice A2 fs.length c2, .int .i64 tn, .bool st]
 have hbs := G.size
 replace G := G.alloc (by omega) (.cells #[.slice A0 ts.length c0, .slice A1 ks.length c1, .slice A2 fs.length c2, .int .i64 tn, .bool st] 35)
 have z1 : (w.alloc (.cells #[.slice A0 ts.length c0, .slice A1 ks.length c1, .slice A2 fs.length c2, .int .i64 tn, .bool st] 35)).heap.size = w.heap.size + 1 := by simp
 clear hbs
 generalize w.alloc (.cells #[.slice A0 ts.length c0, .slice A1 ks.length c1, .slice A2 fs.length c2, .int .i64 tn, .bool st] 35) = W1 at kP G z1 ⊢
 have kQ : Blk (W1.alloc (.cells #[.slice B0 ts.length d0, .slice B1 ks.length d1, .slice B2 fs.length d2, .int .i64 tn, .bool st] 35)) (w.heap.size + 1) 35 #[.slice B0 ts.length d0, .slice B1 ks.length d1, .slice B2 fs.length d2, .int .i64 tn, .bool st] := by
  have h := Blk.new W1 35 #[.slice B0 ts.length d0, .slice B1 ks.length d1, .slice B2 fs.length d2, .int .i64 tn, .bool st]
  rw [show W1.heap.size = w.heap.size + 1 by omega] at h
  exact h
 replace kP := kP.alloc (.cells #[.slice B0 ts.length d0, .slice B1 ks.length d1, .slice B2 fs.length d2, .int .i64 tn, .bool st] 35)
 have hbs := G.size
 replace G := G.alloc (by omega) (.cells #[.slice B0 ts.length d0, .slice B1 ks.length d1, .slice B2 fs.length d2, .int .i64 tn, .bool st] 35)
 have z2 : (W1.alloc (.cells #[.slice B0 ts.length d0, .slice B1 ks.length d1, .slice B2 fs.length d2, .int .i64 tn, .bool st] 35)).heap.size = W1.heap.size + 1 := by simp
 clear hbs
 generalize W1.alloc (.cells #[.slice B0 ts.length d0, .slice B1 ks.length d1, .slice B2 fs.length d2, .int .i64 tn, .bool st] 35) = W2 at kP kQ G z2 ⊢
 go_call (eqTaskS_same ts A0 B0 c0 d0 _ (by omega) (H.out.1.below G) (K.out.1.below G)) as r W3 ⟨rfl, g1⟩
 have hbs := G.size
 replace kP := kP.below g1 kP.lt
 replace kQ := kQ.below g1 kQ.lt
 replace G := G.trans (g1.mono (by omega))
 have z3 := g1.size
 clear g1 hbs
 obtain ⟨tP, qP0, fP0, qP1, fP1, qP2, fP2, qP3, fP3, qP4, fP4⟩ := kP.f5
 obtain ⟨tQ, qQ0, fQ0, qQ1, fQ1, qQ2, fQ2, qQ3, fQ3, qQ4, fQ4⟩ := kQ.f5
 go_wp2_with fail
 go_call (eqInt64S_same ks A1 B1 c1 d1 _ (by omega) (H.out.2.1.below G) (K.out.2.1.below G)) as r W4 ⟨rfl, g1⟩
 clear tP qP0 fP0 qP1 fP1 qP2 fP2 qP3 fP3 qP4 fP4 tQ qQ0 fQ0 qQ1 fQ1 qQ2 fQ2 qQ3 fQ3 qQ4 fQ4
 have hbs := G.size
 replace kP := kP.below g1 kP.lt
 replace kQ := kQ.below g1 kQ.lt
 replace G := G.trans (g1.mono (by omega))
 have z4 := g1.size
 clear g1 hbs
 obtain ⟨tP, qP0, fP0, qP1, fP1, qP2, fP2, qP3, fP3, qP4, fP4⟩ := kP.f5
 obtain ⟨tQ, qQ0, fQ0, qQ1, fQ1, qQ2, fQ2, qQ3, fQ3, qQ4, fQ4⟩ := kQ.f5
 go_wp2_with fail
 go_call (eqFutureS_same fs A2 B2 c2 d2 _ (by omega) (H.out.2.2.below G) (K.out.2.2.below G)) as r W5 ⟨rfl, g1⟩
 clear tP qP0 fP0 qP1 fP1 qP2 fP2 qP3 fP3 qP4 fP4 tQ qQ0 fQ0 qQ1 fQ1 qQ2 fQ2 qQ3 fQ3 qQ4 fQ4
 have hbs := G.size
 replace kP := kP.below g1 kP.lt
 replace kQ := kQ.below g1 kQ.lt
 replace G := G.trans (g1.mono (by omega))
 have z5 := g1.size
 clear g1 hbs
 obtain ⟨tP, qP0, fP0, qP1, fP1, qP2, fP2, qP3, fP3, qP4, fP4⟩ := kP.f5
 obtain ⟨tQ, qQ0, fQ0, qQ1, fQ1, qQ2, fQ2, qQ3, fQ3, qQ4, fQ4⟩ := kQ.f5
 go_wp2_with fail
 go_ret
 exact ⟨rfl, G⟩
/-- Two rows of elements of different types are two blocks. -/
theorem own_ne_own {w : World} {b1 b2 : Nat} {e1 e2 : TypeId} {s1 s2 n1 n2 : Nat} {v1 v2 : Value} {x1 x2 : List Value} (h1 : w.ownsRow b1 e1 s1 v1 n1 x1) (h2 : w.ownsRow b2 e2 s2 v2 n2 x2) (hne : e1 ≠ e2) : v1.ownBlock = none ∨ v1.ownBlock ≠ v2.ownBlock := by
 rcases h1.2 with ⟨rfl, _⟩ | ⟨g1, c1, u1, rfl, _, k1, _⟩
 ·exact .inl rfl
 ·rcases h2.2 with ⟨rfl, _⟩ | ⟨g2, c2, u2, rfl, _, k2, _⟩
  ·exact .inr (by simp [Value.ownBlock])
  ·refine .inr fun e => ?_
   have e' : g1 = g2 := by simpa [Value.ownBlock] using e
   subst e'
   exact Blk.ne_ (t := e1) (t' := e2) k1 k2 hne rfl
theorem OwnR.grown {w w' : World} {lo hi : Nat} {e : TypeId} {size n : Nat} {v : Value} {xs : List Value} {row : Option Nat} (h : OwnR w lo hi e size v n xs) (hg : w.grownBy w' row) (hne : v.ownBlock = none ∨ v.ownBlock ≠ row) : OwnR w' lo hi e size v n xs := ⟨h.1.kept hg hne, h.2⟩
/-- All blocks but those between two marks are as they were. -/
def Within (lo hi : Nat) (w w' : World) : Prop := w'.os = w.os ∧ w'.tape = w.tape ∧ w'.output = w.output ∧ w.heap.size ≤ w'.heap.size ∧ ∀ b, b < w.heap.size → (b < lo ∨ hi ≤ b) → w'.heap[b]? = w.heap[b]?
section
variable {lo hi B : Nat} {w w' w2 : World}
theorem Within.refl (lo hi : Nat) (w : World) : Within lo hi w w := ⟨rfl, rfl, rfl, Nat.le_refl _, fun _ _ _ => rfl⟩
theorem Within.size (h : Within lo hi w w') : w.heap.size ≤ w'.heap.size := h.2.2.2.1
theorem Within.alloc (h : Within lo hi w w') (_ : w.heap.size ≤ w'.heap.size) (o : Obj) : Within lo hi w (w'.alloc o) :=
 ⟨h.1, h.2.1, h.2.2.1, Nat.le_trans h.2.2.2.1 (by simp), fun b hb ho => (Below.heap_alloc w' o b (Nat.lt_of_lt_of_le hb h.2.2.2.1)).trans (h.2.2.2.2 b hb ho)⟩
theorem Within.setNew (h : Within lo hi w w') {p : Addr} (hp : w.heap.size ≤ p.block) (v : Value) : Within lo hi w (w'.setCell p v) :=
 ⟨h.1, h.2.1, h.2.2.1, by simpa [World.setCell] using h.2.2.2.1, fun b hb ho => (Below.heap_setCell w' p v b (by intro e; subst e; omega)).trans (h.2.2.2.2 b hb ho)⟩
theorem Within.setIn (h : Within lo hi w w') {p : Addr} (hp : lo ≤ p.block ∧ p.block < hi) (v : Value) : Within lo hi w (w'.setCell p v) :=
 ⟨h.1, h.2.1, h.2.2.1, by simpa [World.setCell] using h.2.2.2.1, fun b hb ho => (Below.heap_setCell w' p v b (by intro e; subst e; omega)).trans (h.2.2.2.2 b hb ho)⟩
theorem Within.drew (h : Within lo hi w w') : Within lo hi w w'.drew := h
theorem Within.wide {l2 h2 : Nat} (h : Within lo hi w w') (hl : l2 ≤ lo) (hh : hi ≤ h2) : Within l2 h2 w w' := ⟨h.1, h.2.1, h.2.2.1, h.2.2.2.1, fun b hb ho => h.2.2.2.2 b hb (by omega)⟩
theorem Within.trans (h : Within lo hi w w') (k : Within lo hi w' w2) : Within lo hi w w2 :=
 ⟨k.1.trans h.1, k.2.1.trans h.2.1, k.2.2.1.trans h.2.2.1, Nat.le_trans h.2.2.2.1 k.2.2.2.1, fun b hb ho => (k.2.2.2.2 b (Nat.lt_of_lt_of_le hb h.2.2.2.1) ho).trans (h.2.2.2.2 b hb ho)⟩
theorem Within.of_below (h : Below w.heap.size w w') : Within lo hi w w' := ⟨h.os, h.tape, h.output, h.size, fun b hb _ => h.block b hb⟩
theorem Within.blk {g : Nat} {t : TypeId} {cs : Array Value} (h : Within lo hi w w') (hk : Blk w g t cs) (hg : g < lo ∨ hi ≤ g) : Blk w' g t cs := (h.2.2.2.2 g hk.lt hg).trans hk
theorem Within.under {a : World} (h : Within lo hi w w') (hb : Below B a w) (hB : B ≤ lo) (hw : B ≤ w.heap.size) : Below B a w' :=
 ⟨h.1.trans hb.os, h.2.1.trans hb.tape, h.2.2.1.trans hb.output, Nat.le_trans hb.size h.2.2.2.1, fun i hi => (h.2.2.2.2 i (by omega) (.inl (by omega))).trans (hb.block i hi)⟩
theorem Within.own {l2 h2 : Nat} {e : TypeId} {size n : Nat} {v : Value} {xs : List Value} (h : Within lo hi w w') (k : OwnR w l2 h2 e size v n xs) (hd : h2 ≤ lo ∨ hi ≤ l2) : OwnR w' l2 h2 e size v n xs := by
 refine ⟨⟨k.1.1, ?_⟩, k.2⟩
 rcases k.1.2 with k2 | ⟨g, cap, cur, hv, hb, hg, hr⟩
 ·exact .inl k2
 ·have hlt : g < w.heap.size := Blk.lt (t := e) (cs := cur) hg
  have hhi := k.2 g (by rw [hv]; rfl)
  exact .inr ⟨g, cap, cur, hv, hb, (h.2.2.2.2 g hlt (by omega)).trans hg, hr⟩
end
theorem Within.pool {lo hi l2 h2 : Nat} {w w' : World} {ts : List T7} {ks : List Int} {fs : List F2} {A0 A1 A2 : Option Addr} {c0 c1 c2 : Nat} (h : Within lo hi w w') (k : OwnPool w l2 h2 ts ks fs A0 A1 A2 c0 c1 c2) (hd : h2 ≤ lo ∨ hi ≤ l2) : OwnPool w' l2 h2 ts ks fs A0 A1 A2 c0 c1 c2 := ⟨h.own k.1 hd, h.own k.2.1 hd, h.own k.2.2 hd⟩
end Go.Proofs.YtfkdfkoigojciaaGreatDoor
