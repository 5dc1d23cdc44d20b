/- Chapter 5's law of parking: whoever is parked waits last in the line of those who wait for the same, and its worker is free: true at every code. No condition. -/
import Derived.Test.YtfjgelegojbmgaaGreatQB04
import Derived.Test.YtfjgelegojbmgaaGreatQB05
import Derived.Test.YtfjgelegojbmgaaGreatQB11
import Derived.Test.YtfjgelegojbmgaaGreatQB08
import Derived.Test.YtfjgelegojbmgaaGreatQB09
import Derived.Test.YtfjgelegojbmgaaGreatQB02
import Derived.Test.YtfjgelegojbmgaaGreatQFnParked06
import Derived.Test.YtfjgelegojbmgaaGreatQFnParked01
import Derived.Test.YtfjgelegojbmgaaGreatQFnParked04
import Derived.Test.YtfjgelegojbmgaaGreatQB01

namespace Go.Proofs.YtfjgelegojbmgaaGreat
open Go.RowKit
set_option linter.unusedVariables false
set_option maxRecDepth 100000 in
set_option maxHeartbeats 1000000 in
theorem likeInts_same (ks : List Int) (A B : Option Addr) (c d : Nat) (w : World) (hlen : ks.length ≤ 1048576) (h0 : Row w A (icells ks)) (h1 : Row w B (icells ks)) :
 Calls Tryz.prog 54 #[.slice A ks.length c, .slice B ks.length d] w fun r w' => r = .returned (.bool true) ∧ Below w.heap.size w w' := by
 have H0 := hide h0
 have H1 := hide h1
 clear h0 h1
 go_enter Tryz.func54, Tryz.ntmps54
 go_wp2
 go_loopw [5] (fun i wr => ∃ (k : Nat), k ≤ ks.length ∧ i = .int .i64 k ∧ Below w.heap.size w wr) (fun i _ => ks.length - (intOf i).toNat)
 case atStart => exact ⟨0, Nat.zero_le _, rfl, by go_grown⟩
 case round =>
  obtain ⟨k, hk, rfl, hbel⟩ := hrel
  have hz := hbel.size
  by_cases hlt : k < ks.length
  ·obtain ⟨b, off, v, rfl, _, hx, hb1, z0⟩ := (H0.out.below hbel).ks_at hlt
   obtain ⟨b2, off2, v', rfl, _, hx2, hb2, y0⟩ := (H1.out.below hbel).ks_at hlt
   rw [hx] at hx2
   injection hx2 with hx2
   subst hx2
   clear hx
   have c0 := KeptW.cell (W0 := wr) (b := b) (o := off + k) (z0)
   have e0 := KeptW.cell (W0 := wr) (b := b2) (o := off2 + k) (y0)
   clear z0 y0
   go_wp2_with fail
   have hx0 := KeptW.mk'_w (Below.refl wr.heap.size wr)
   generalize KeptW.mk' (Below.refl wr.heap.size wr) = x at hx0
   rw [← hx0]
   clear hx0
   refine region_kept (by kernel_rfl) (by kernel_rfl) ?_
   repeat (go_big_quiet_step (fail))
   refine wpQuiet_nil ?_
   rintro _ ⟨x, rfl⟩
   have hgx := hbel.trans (x.below.mono hz)
   go_wp2
   go_roundw
   case rel => exact ⟨k + 1, by omega, by go_num, hgx⟩
   case measure => simp [intOf]; omega
  ·go_wp2
   go_ret
   exact ⟨rfl, hbel⟩
set_option maxRecDepth 100000 in
set_option maxHeartbeats 1000000 in
theorem likePool_same (ts : List T7) (ks : List Int) (fs : List F2) (A0 A1 A2 B0 B1 B2 : Option Addr) (c0 c1 c2 d0 d1 d2 : Nat) (tn : Int) (st : Bool) (w : World) (hl : ts.length + ks.length + fs.length ≤ 1048576) (hA : InPool w ts ks fs A0 A1 A2) (hB : InPool w ts ks fs B0 B1 B2) :
 Calls Tryz.prog 14 #[.agg #[.slice A0 ts.length c0, .slice A1 ks.length c1, .slice A2 fs.length c2, .int .i64 tn, .bool st], .agg #[.slice B0 ts.length d0, .slice B1 ks.length d1, .slice B2 fs.length d2, .int .i64 tn, .bool st]] w fun r w' => r = .returned (.bool true) ∧ Below w.heap.size w w' := by
 have HA := hide hA
 have HB := hide hB
 clear hA hB
 go_enter Tryz.func14, Tryz.ntmps14
 go_wp2_with fail
 generalize hW : (w.alloc _).alloc _ = W1
 have M := Sep.e2 hW
 clear hW
 have HV := hide M.below
 obtain ⟨xb, hxb⟩ : ∃ xb, xb = w.heap.size := ⟨_, rfl⟩
 obtain ⟨yb, hyb⟩ : ∃ yb, yb = w.heap.size + 1 := ⟨_, rfl⟩
 rw [← hyb, ← hxb] at M ⊢
 obtain ⟨tX, Ae, Ai, Aj, Ag, Aa⟩ := M.q5 1 rfl
 obtain ⟨tY, Af, Ah, Ab, Ac, Ad⟩ := M.q5 0 rfl
 have HA2 := hide (InPool.below HA.out M.below)
 have HB2 := hide (InPool.below HB.out M.below)
 clear M HA HB hxb hyb tX tY
 have cX0 := fun (x : KeptW W1) => KeptW.cell Ae x
 have cX1 := fun (x : KeptW W1) => KeptW.cell Ai x
 have cX2 := fun (x : KeptW W1) => KeptW.cell Aj x
 have cX3 := fun (x : KeptW W1) => KeptW.cell Ag x
 have cX4 := fun (x : KeptW W1) => KeptW.cell Aa x
 have cY0 := fun (x : KeptW W1) => KeptW.cell Af x
 have cY1 := fun (x : KeptW W1) => KeptW.cell Ah x
 have cY2 := fun (x : KeptW W1) => KeptW.cell Ab x
 have cY3 := fun (x : KeptW W1) => KeptW.cell Ac x
 have cY4 := fun (x : KeptW W1) => KeptW.cell Ad x
 clear Ae Ai Aj Ag Aa Af Ah Ab Ac Ad
 have hx0 := KeptW.mk'_w (Below.refl W1.heap.size W1)
 generalize KeptW.mk' (Below.refl W1.heap.size W1) = x0 at hx0
 rw [← hx0]
 clear hx0
 go_wp2_with fail
 go_call (likeInts_same ks A1 B1 c1 d1 x0.w (by omega) (InPool.below HA2.out x0.below).2.1 (InPool.below HB2.out x0.below).2.1) as r Wq ⟨rfl, g3⟩
 obtain ⟨x1, rfl⟩ : ∃ y : KeptW W1, Wq = y.w := ⟨KeptW.mk' (x0.below.trans (g3.mono x0.below.size)), rfl⟩
 clear g3
 go_wp2_with fail
 go_loopw [5] (fun i wr => ∃ (k : Nat) (x : KeptW W1), k ≤ ts.length ∧ i = .int .i64 k ∧ wr = x.w) (fun i _ => ts.length - (intOf i).toNat)
 case atStart => exact ⟨0, x1, Nat.zero_le _, rfl, rfl⟩
 case round =>
  obtain ⟨k, x, hk, rfl, rfl⟩ := hrel
  by_cases hlt : k < ts.length
  ·obtain ⟨b, off, s, l, o, wt, on, v, t, eA, _, hx, hb1, z0, z1, z2, z3, z4, z5, z6⟩ := (InPool.below HA2.out x.below).1.ts_at hlt
   obtain ⟨b2, off2, s', l', o', wt', on', v', t', eB, _, hx2, hb2, y0, y1, y2, y3, y4, y5, y6⟩ := (InPool.below HB2.out x.below).1.ts_at hlt
   rw [hx] at hx2
   injection hx2 with hx2
   injection hx2 with u0 u1 u2 u3 u4 u5 u6
   subst u0 u1 u2 u3 u4 u5 u6 eA eB
   clear hx
   have e0 := KeptW.cell (W0 := x.w) (b := b) (o := off + k * 7) (z0)
   have f0 := KeptW.cell (W0 := x.w) (b := b2) (o := off2 + k * 7) (y0)
   have e1 := KeptW.cell (W0 := x.w) (b := b) (o := off + k * 7 + 1) (z1)
   have f1 := KeptW.cell (W0 := x.w) (b := b2) (o := off2 + k * 7 + 1) (y1)
   have e2 := KeptW.cell (W0 := x.w) (b := b) (o := off + k * 7 + 2) (z2)
   have f2 := KeptW.cell (W0 := x.w) (b := b2) (o := off2 + k * 7 + 2) (y2)
   have e3 := KeptW.cell (W0 := x.w) (b := b) (o := off + k * 7 + 3) (z3)
   have f3 := KeptW.cell (W0 := x.w) (b := b2) (o := off2 + k * 7 + 3) (y3)
   have e4 := KeptW.cell (W0 := x.w) (b := b) (o := off + k * 7 + 4) (z4)
   have f4 := KeptW.cell (W0 := x.w) (b := b2) (o := off2 + k * 7 + 4) (y4)
   have e5 := KeptW.cell (W0 := x.w) (b := b) (o := off + k * 7 + 5) (z5)
   have f5 := KeptW.cell (W0 := x.w) (b := b2) (o := off2 + k * 7 + 5) (y5)
   have e6 := KeptW.cell (W0 := x.w) (b := b) (o := off + k * 7 + 6) (z6)
   have f6 := KeptW.cell (W0 := x.w) (b := b2) (o := off2 + k * 7 + 6) (y6)
   clear z0 y0 z1 y1 z2 y2 z3 y3 z4 y4 z5 y5 z6 y6
   have dX0 := fun (y : KeptW x.w) => KeptW.cell (cX0 x) y
   have dX2 := fun (y : KeptW x.w) => KeptW.cell (cX2 x) y
   have dY0 := fun (y : KeptW x.w) => KeptW.cell (cY0 x) y
   have dY2 := fun (y : KeptW x.w) => KeptW.cell (cY2 x) y
   clear HA2 HB2
   go_wp2_with fail
   have hx0 := KeptW.mk'_w (Below.refl x.w.heap.size x.w)
   generalize KeptW.mk' (Below.refl x.w.heap.size x.w) = x2 at hx0
   rw [← hx0]
   clear hx0
   refine region_kept (by kernel_rfl) (by kernel_rfl) ?_
   repeat (go_big_quiet_step (fail))
   refine wpQuiet_nil ?_
   rintro _ ⟨x2, rfl⟩
   obtain ⟨y, hy⟩ : ∃ y : KeptW W1, x2.w = y.w := ⟨KeptW.mk' (x.below.trans (x2.below.mono x.below.size)), rfl⟩
   rw [hy]
   clear hy
   go_wp2
   go_roundw
   case rel => exact ⟨k + 1, y, by omega, by go_num, rfl⟩
   case measure => simp [intOf]; omega
  ·go_wp2_with fail
   go_loopw [6] (fun i wr => ∃ (k : Nat) (x : KeptW W1), k ≤ fs.length ∧ i = .int .i64 k ∧ wr = x.w) (fun i _ => fs.length - (intOf i).toNat)
   case atStart => exact ⟨0, x, Nat.zero_le _, rfl, rfl⟩
   case round =>
    clear hk hlt
    obtain ⟨k, x, hk, rfl, rfl⟩ := hrel
    by_cases hlt : k < fs.length
    ·obtain ⟨b, off, s, v, eA, _, hx, hb1, z0, z1⟩ := (InPool.below HA2.out x.below).2.2.fs_at hlt
     obtain ⟨b2, off2, s', v', eB, _, hx2, hb2, y0, y1⟩ := (InPool.below HB2.out x.below).2.2.fs_at hlt
     rw [hx] at hx2
     injection hx2 with hx2
     injection hx2 with u0 u1
     subst u0 u1 eA eB
     clear hx
     have e0 := KeptW.cell (W0 := x.w) (b := b) (o := off + k * 2) (z0)
     have f0 := KeptW.cell (W0 := x.w) (b := b2) (o := off2 + k * 2) (y0)
     have e1 := KeptW.cell (W0 := x.w) (b := b) (o := off + k * 2 + 1) (z1)
     have f1 := KeptW.cell (W0 := x.w) (b := b2) (o := off2 + k * 2 + 1) (y1)
     clear z0 y0 z1 y1
     have dX0 := fun (y : KeptW x.w) => KeptW.cell (cX0 x) y
     have dX2 := fun (y : KeptW x.w) => KeptW.cell (cX2 x) y
     have dY0 := fun (y : KeptW x.w) => KeptW.cell (cY0 x) y
     have dY2 := fun (y : KeptW x.w) => KeptW.cell (cY2 x) y
     clear HA2 HB2
     go_wp2_with fail
     have hx0 := KeptW.mk'_w (Below.refl x.w.heap.size x.w)
     generalize KeptW.mk' (Below.refl x.w.heap.size x.w) = x2 at hx0
     rw [← hx0]
     clear hx0
     refine region_kept (by kernel_rfl) (by kernel_rfl) ?_
     repeat (go_big_quiet_step (fail))
     refine wpQuiet_nil ?_
     rintro _ ⟨x2, rfl⟩
     obtain ⟨y, hy⟩ : ∃ y : KeptW W1, x2.w = y.w := ⟨KeptW.mk' (x.below.trans (x2.below.mono x.below.size)), rfl⟩
     rw [hy]
     clear hy
     go_wp2
     go_roundw
     case rel => exact ⟨k + 1, y, by omega, by go_num, rfl⟩
     case measure => simp [intOf]; omega
    ·go_wp2
     go_ret
     exact ⟨rfl, HV.out.trans (x.below.mono HV.out.size)⟩
theorem likePool_eq {us ts : List T7} {ks2 ks : List Int} {fs2 fs : List F2} {tn2 tn : Int} {st2 st : Bool} (e : us = ts ∧ ks2 = ks ∧ fs2 = fs ∧ tn2 = tn ∧ st2 = st) (A0 A1 A2 B0 B1 B2 : Option Addr) (c0 c1 c2 d0 d1 d2 : Nat) (w : World) (hl : us.length + ks2.length + fs2.length ≤ 1048576) (hA : InPool w us ks2 fs2 A0 A1 A2) (hB : InPool w ts ks fs B0 B1 B2) :
 Calls Tryz.prog 14 #[.agg #[.slice A0 us.length c0, .slice A1 ks2.length c1, .slice A2 fs2.length c2, .int .i64 tn2, .bool st2], .agg #[.slice B0 ts.length d0, .slice B1 ks.length d1, .slice B2 fs.length d2, .int .i64 tn, .bool st]] w fun r w' => r = .returned (.bool true) ∧ Below w.heap.size w w' := by
 obtain ⟨rfl, rfl, rfl, rfl, rfl⟩ := e
 exact likePool_same _ _ _ A0 A1 A2 B0 B1 B2 c0 c1 c2 d0 d1 d2 _ _ w hl hA hB
theorem gPoolOk_k {a b c d e : Int} {ts : List T7} {ks : List Int} {fs : List F2} {A0 A1 A2 : Option Addr} (c0 c1 c2 : Nat) {tn : Int} (st y : Bool) (w : World) (hk : ks.length ≤ 1048576) (hf : fs.length ≤ 1048576) (h : InPool w ts ks fs A0 A1 A2) (hy : poolB a b c d e ts ks fs tn = y) :
 Calls Tryz.prog 18 #[.agg #[.int .i64 a, .int .i64 b, .int .i64 c, .int .i64 d, .int .i64 e], .agg #[.slice A0 ts.length c0, .slice A1 ks.length c1, .slice A2 fs.length c2, .int .i64 tn, .bool st]] w fun r w' => r = .returned (.bool y) ∧ Below w.heap.size w w' := by
 subst hy
 exact gPoolOk_any a b c d e ts ks fs A0 A1 A2 c0 c1 c2 tn st w hk hf h
theorem sPoolOk_k {a b c d e : Int} {ts : List T7} {ks : List Int} {fs : List F2} {A0 A1 A2 : Option Addr} (c0 c1 c2 : Nat) {tn : Int} (st y : Bool) (w : World) (ht : ts.length ≤ 1048576) (hk : ks.length ≤ 1048576) (hf : fs.length ≤ 1048576) (h : InPool w ts ks fs A0 A1 A2) (hy : poolB a b c d e ts ks fs tn = y) :
 Calls Tryz.prog 16 #[.agg #[.int .i64 a, .int .i64 b, .int .i64 c, .int .i64 d, .int .i64 e], .agg #[.slice A0 ts.length c0, .slice A1 ks.length c1, .slice A2 fs.length c2, .int .i64 tn, .bool st]] w fun r w' => r = .returned (.bool y) ∧ Below w.heap.size w w' := by
 subst hy
 exact sPoolOk_any a b c d e ts ks fs A0 A1 A2 c0 c1 c2 tn st w ht hk hf h
theorem gRunBy_k {ts : List T7} {wk y : Int} (A0 A1 A2 : Option Addr) (c0 n1 c1 n2 c2 : Nat) (tn : Int) (st : Bool) (w : World) (hlen : ts.length ≤ 1048576) (h0 : Row w A0 (tcells ts)) (hy : runM ts wk 0 = y) :
 Calls Tryz.prog 22 #[.agg #[.slice A0 ts.length c0, .slice A1 n1 c1, .slice A2 n2 c2, .int .i64 tn, .bool st], .int .i64 wk] w fun r w' => r = .returned (.int .i64 y) ∧ Below w.heap.size w w' := by
 subst hy
 exact gRunBy_any ts A0 A1 A2 c0 n1 c1 n2 c2 tn st wk w hlen h0
def sliceLen : Value → Nat
 | .slice _ n _ => n
 | _ => 0
set_option maxRecDepth 100000 in
set_option maxHeartbeats 1000000 in
theorem leave_any (ps : List P3) (lb : Nat) (A : Option Addr) (c : Nat) (hl : ps.length ≤ 1048576) (w : World) (hh : HeapL ps) (h : LineIn w lb A c ps) :
 Calls Tryz.prog 56 #[.pointer (some ⟨lb, 0, none⟩)] w fun r w' => ∃ (B : Option Addr) (d : Nat) (out : List P3), r = .returned (.slice B out.length d) ∧ out.Pairwise leP ∧ out.Perm ps ∧ Sep (fps (lineL lb A c ps)) w w' (rK out.length B d (out.map P3.i) :: lineL lb A c []) := by
 obtain ⟨i0, hi, hz0, hz1, hz2⟩ := info_parts infoInt
 have qL : w.cell? ⟨lb, 0, none⟩ = some (.slice A ps.length c) := Sep.cell h 0 0 rfl
 have H := hide (⟨h, hh⟩ : _ ∧ _)
 clear h hh
 go_enter Tryz.func56, Tryz.ntmps56
 go_wp2_with fail
 go_call (len_any A ps.length c _) as r W2 ⟨rfl, rfl⟩
 go_wp2_with fail
 obtain ⟨W1, hr, ho, hg⟩ := run_make_own (P := Tryz.prog) w w.heap.size 27 2 i0 (.int .i64 0) 1 Tryz.underlying27 hi hz0 hz1 .i64 .i64 ps.length (by rw [hz2]; omega) (by unfold maxLen; omega) (Nat.le_refl _)
 rw [hr]
 have M : Sep (fps (lineL lb A c ps)) w W1 (rK 0 (some ⟨w.heap.size, 0, none⟩) ps.length [] :: lineL lb A c ps) := Sep.comp (ps := []) (rs := lineL lb A c ps) H.out.1 (sepRow ⟨hg.os, hg.tape, hg.output, hg.size, fun b hb => hg.block b hb (by simp)⟩ ho)
 clear hr ho hg qL
 go_wp2_with fail
 go_loopw [3] (fun i wr => ∃ (out qs : List P3) (B : Option Addr) (d : Nat), i = .slice B out.length d ∧ Hid ((out ++ qs).Perm ps ∧ out.Pairwise leP ∧ (∀ x ∈ out, ∀ y ∈ qs, leP x y) ∧ HeapL qs) ∧ Sep (fps (lineL lb A c ps)) w wr (rK out.length B d (out.map P3.i) :: lineL lb A c qs)) (fun i _ => (ps.length - sliceLen i : Nat))
 case atStart => exact ⟨[], ps, _, _, rfl, hide ⟨List.Perm.refl _, List.Pairwise.nil, by simp, H.out.2⟩, M⟩
 case round =>
  clear M H
  obtain ⟨out, qs, B, d, rfl, HP, M⟩ := hrel
  have hlen : out.length + qs.length = ps.length := by have := HP.out.1.length_eq; simpa using this
  have hql : qs.length ≤ 1048576 := by omega
  have hol : out.length ≤ 1048576 := by omega
  have HL := hide hlen
  clear hlen
  have qL : wr.cell? ⟨lb, 0, none⟩ = some (.slice A qs.length c) := M.cell 1 0 rfl
  have tL : lb < wr.heap.size := M.lt 1 rfl
  by_cases h0 : qs = []
  ·subst h0
   have qL2 : wr.cell? ⟨lb, 0, none⟩ = some (.slice A 0 c) := qL
   clear qL
   go_wp2_with fail
   go_call (len_any A 0 c _) as r W2 ⟨rfl, rfl⟩
   go_wp2_with fail
   go_ret
   have hp := HP.out.1
   rw [List.append_nil] at hp
   exact ⟨B, d, out, rfl, HP.out.2.1, hp, M⟩
  ·have hpos : 0 < qs.length := List.length_pos_iff.2 h0
   have hpi : (0 : Int) < (qs.length : Int) := by omega
   clear h0
   go_wp2_with fail
   go_call (len_any A qs.length c _) as r W2 ⟨rfl, rfl⟩
   go_wp2_with fail
   have hN := next_any qs lb A c hpos hql wr HP.out.2.2.2 (LineIn.of (rs := [rK out.length B d (out.map P3.i)]) (M.perm (List.perm_append_comm (l₁ := [_]) (l₂ := lineL lb A c qs))))
   obtain ⟨y, hy⟩ : ∃ y, y = at3 qs 0 := ⟨_, rfl⟩
   obtain ⟨yi, hyi⟩ : ∃ yi, yi = y.i := ⟨_, rfl⟩
   rw [← hy, ← hyi] at hN
   have HY := hide (⟨hy, hyi⟩ : _ ∧ _)
   clear hy hyi qL tL
   apply Calls.mono
   focus with_reducible exact hN
   clear hN
   rintro r W3 ⟨rfl, q2, hp2, hh2, M2⟩
   replace M := Sep.comp (ps := lineL lb A c qs) (rs := [rK out.length B d (out.map P3.i)]) (M.perm (List.perm_append_comm (l₁ := [_]) (l₂ := lineL lb A c qs))) M2
   replace M := M.perm (List.perm_append_comm (l₁ := lineL lb A c q2) (l₂ := [_]))
   clear M2
   have HQ := hide (⟨hp2, hh2⟩ : _ ∧ _)
   clear hp2 hh2 hpos hpi
   go_wp2_with (at_builtin; refine wpList_append_sep rfl (.tmp 14) (.tmp 17) 27 rfl 2 i0 (.int .i64 0) 1 8 Tryz.underlying27 hi hz0 hz1 hz2 rfl (by decide) B out.length d (icells (out.map P3.i)) rfl ((M.allocN 2 #[.int .i64 yi]).rowAt 1 rfl) ⟨W3.heap.size, 0, none⟩ 1 1 (icells [yi]) rfl rfl (rowOne W3 yi 2) (by simp [icells]) (icells_oneL _) (by unfold maxLen; omega) (by omega) ?_; intro B' d' W4 k)
   have hyq : y ∈ qs := HQ.out.1.subset (by simp)
   refine ⟨⟨out ++ [y], q2, B', d', by simp, hide ⟨?_, ?_, ?_, HQ.out.2⟩, ?_⟩, ?_⟩
   ·rw [List.append_assoc]
    exact (List.Perm.append_left out HQ.out.1).trans HP.out.1
   ·exact List.pairwise_append.2 ⟨HP.out.2.1, by simp, fun a ha b hb => by simp at hb; subst hb; exact HP.out.2.2.1 a ha _ hyq⟩
   ·intro a ha z hz
    have hzq : z ∈ qs := HQ.out.1.subset (List.mem_cons_of_mem _ hz)
    rcases List.mem_append.1 ha with ha | ha
    ·exact HP.out.2.2.1 a ha z hzq
    ·simp at ha
     subst ha
     have := HP.out.2.2.2.first z hzq
     rw [← HY.out.1] at this
     exact this
   ·have k' : Sep (fps [rK out.length B d (out.map P3.i)]) (W3.alloc (.cells #[.int .i64 yi] 2)) W4 [rK (out ++ [y]).length B' d' ((out ++ [y]).map P3.i)] := by
     rw [List.length_append, List.length_singleton, List.map_append, List.map_cons, List.map_nil, ← HY.out.2]
     unfold rK
     rw [← icells_app]
     exact k
    exact Sep.comp (ps := [rK out.length B d (out.map P3.i)]) (rs := lineL lb A c q2) (M.allocN 2 #[.int .i64 yi]).tail k'
   ·have h5 := HL.out
    have h6 := List.length_pos_of_mem hyq
    show ps.length - (out.length + 1) < ps.length - out.length
    omega
set_option maxRecDepth 100000 in
set_option maxHeartbeats 2000000 in
theorem gWaitersOn_any (ts : List T7) (ks : List Int) (fs : List F2) (A0 A1 A2 : Option Addr) (c0 c1 c2 : Nat) (tn : Int) (st : Bool) (wk on2 : Int) (w : World) (hlen : ts.length ≤ 1048576) (h : Row w A0 (tcells ts)) :
 Calls Tryz.prog 15 #[.agg #[.slice A0 ts.length c0, .slice A1 ks.length c1, .slice A2 fs.length c2, .int .i64 tn, .bool st], .int .i64 wk, .int .i64 on2] w fun r w' => ∃ (B : Option Addr) (d : Nat), r = .returned (.slice B (waitersM ts wk on2).length d) ∧ Sep [] w w' [rK (waitersM ts wk on2).length B d (waitersM ts wk on2)] := by
 have H := hide h
 clear h
 go_enter Tryz.func15, Tryz.ntmps15
 go_wp2_with fail
 generalize hW : w.alloc _ = W1
 have M := Sep.e1 hW
 clear hW
 obtain ⟨tP, Aa, Ad, Ac, Ae, Ab⟩ := M.q5 0 rfl
 go_wp2_with fail
 go_call (waitersOn_p ts w.heap.size A0 c0 wk on2 _ hlen (M.cell 0 0 rfl) (H.out.below M.below)) as r W2 ⟨lb, A, c, ps, rfl, hle, hh, hp, g1⟩
 clear tP Aa Ad Ac Ae Ab
 replace M : Sep [] w W2 (lineL lb A c ps ++ [.blk (w.heap.size) 30 #[.slice A0 ts.length c0, .slice A1 ks.length c1, .slice A2 fs.length c2, .int .i64 tn, .bool st]]) := Sep.new M g1
 clear g1
 have HP := hide (⟨hh, hp⟩ : _ ∧ _)
 clear hh hp
 go_wp2_with fail
 go_call (leave_any ps lb A c (by omega) _ HP.out.1 (LineIn.of M)) as r W3 ⟨B, d, out, rfl, hs, hq, g1⟩
 replace M := Sep.comp (ps := lineL lb A c ps) M g1
 clear g1
 have hE : out.map P3.i = waitersM ts wk on2 := wait_eq hs (hq.trans HP.out.2)
 have hL : out.length = (waitersM ts wk on2).length := by rw [← hE]; simp
 rw [hE, hL] at M
 rw [hL]
 clear hE hL hs hq HP
 go_wp2_with fail
 go_ret
 exact ⟨B, d, rfl, M.take 1⟩
theorem waiters_le (ts : List T7) (wt on : Int) : (waitersM ts wt on).length ≤ ts.length := lineM_length _ _ _
theorem parked_last {ts : List T7} {k : Nat} {x : T7} {tn : Int} (hx : ts[k]? = some x) (hall : ∀ (j : Nat) (y : T7), ts[j]? = some y → y.t < tn) (wt on : Int) :
 ∃ n, (waitersM (ts.set k (parkT x tn wt on)) wt on).length = n + 1 ∧ (waitersM (ts.set k (parkT x tn wt on)) wt on)[n]? = some (k : Int) := by
 have hk := get_lt hx
 refine waiters_last (x := parkT x tn wt on) (List.getElem?_set_self hk) rfl rfl rfl fun j y hj hy => ?_
 rw [List.getElem?_set_ne (by omega)] at hy
 exact hall j y hy
theorem gWaitersOn_l (ts : List T7) (ks : List Int) (fs : List F2) (A0 A1 A2 : Option Addr) (c0 c1 c2 : Nat) (tn : Int) (st : Bool) (wk on2 : Int) (n : Nat) (w : World) (hlen : ts.length ≤ 1048576) (hn : (waitersM ts wk on2).length = n + 1) (h : Row w A0 (tcells ts)) :
 Calls Tryz.prog 15 #[.agg #[.slice A0 ts.length c0, .slice A1 ks.length c1, .slice A2 fs.length c2, .int .i64 tn, .bool st], .int .i64 wk, .int .i64 on2] w fun r w' => ∃ (B : Option Addr) (d : Nat), r = .returned (.slice B (n + 1) d) ∧ Sep [] w w' [rK (waitersM ts wk on2).length B d (waitersM ts wk on2)] :=
 (gWaitersOn_any ts ks fs A0 A1 A2 c0 c1 c2 tn st wk on2 w hlen h).mono fun r w' ⟨B, d, hr, hs⟩ => ⟨B, d, by rw [hr, hn], hs⟩
set_option maxRecDepth 100000 in
set_option maxHeartbeats 1600000 in
theorem fnParked_any (w : World) (A : Option Addr) (len cap : Nat) (hby : Bytes w w.heap.size A len) (hl : len ≤ 4096) :
 Calls Tryz.prog 4 #[.slice A len cap] w fun r w' => r = .returned (.bool true) ∧ Below w.heap.size w w' := by
 go_enter Tryz.func4, Tryz.ntmps4
 go_wp2_with fail
 go_call (big_any A len cap _) as r w' ⟨rfl, rfl⟩
 go_wp2_with fail
 go_call (drawParked_any w.heap.size w A len cap (Nat.le_refl _) hl hby) as r W1 ⟨a, b, c, d, e, ts, ks, fs, tn, st, B0, B1, B2, e0, e1, e2, id, wt, on, rfl, h0, h1, h2, M⟩
 clear hby
 obtain ⟨us, ks2, fs2, tn2, st2, zz, hle, hE, hS, hI⟩ := parked_told a b c d e ts ks fs tn st id wt on (by omega)
 replace hE := hide hE
 go_wp2_with fail
 have N := M.al2 25 #[.int .i64 a, .int .i64 b, .int .i64 c, .int .i64 d, .int .i64 e] 30 #[.slice B0 ts.length e0, .slice B1 ks.length e1, .slice B2 fs.length e2, .int .i64 tn, .bool st]
 clear M
 obtain ⟨aP, aX, W2, e1, e2, e3, M⟩ := N
 rw [e3, e2, e1]
 clear e1 e2 e3
 obtain ⟨tX, Ag, Aj, Ac, Ae, Aa⟩ := M.q5 0 rfl
 obtain ⟨tP, Ad, Af, Ab, Ah, Ai⟩ := M.q5 1 rfl
 go_wp2_with fail
 go_call (hI.out B0 B1 B2 e0 e1 e2 _ ⟨M.rowS 2 rfl, M.rowS 3 rfl, M.rowS 4 rfl⟩) as r W3 ⟨C0, C1, C2, f0, f1, f2, rfl, g1⟩
 clear tX Ag Aj Ac Ae Aa tP Ad Af Ab Ah Ai
 replace M := Sep.new M g1
 simp only [List.cons_append, List.nil_append] at M
 clear g1
 obtain ⟨tX, Ag, Aj, Ac, Ae, Aa⟩ := M.q5 3 rfl
 obtain ⟨tP, Ad, Af, Ab, Ah, Ai⟩ := M.q5 4 rfl
 go_wp2_with fail
 clear tX Ag Aj Ac Ae Aa tP Ad Af Ab Ah Ai
 have N := M.al1 30 #[.slice C0 us.length f0, .slice C1 ks2.length f1, .slice C2 fs2.length f2, .int .i64 tn2, .bool st2]
 clear M
 obtain ⟨aY, W4, e1, e3, M⟩ := N
 rw [e3, e1]
 clear e1 e3
 obtain ⟨tX, Ag, Aj, Ac, Ae, Aa⟩ := M.q5 4 rfl
 obtain ⟨tP, Ad, Af, Ab, Ah, Ai⟩ := M.q5 5 rfl
 go_wp2_with fail
 go_call (hS.out B0 B1 B2 e0 e1 e2 _ ⟨M.rowS 6 rfl, M.rowS 7 rfl, M.rowS 8 rfl⟩) as r W5 ⟨D0, D1, D2, m0, m1, m2, rfl, g1⟩
 clear tX Ag Aj Ac Ae Aa tP Ad Af Ab Ah Ai
 replace M := Sep.new M g1
 simp only [List.cons_append, List.nil_append] at M
 clear g1
 clear hS hI
 cases zz
 ·replace hE := hide (hE.out.2 rfl)
  obtain ⟨tY, Al, Am, Ak, Ao, An⟩ := M.q5 3 rfl
  obtain ⟨tX, Ag, Aj, Ac, Ae, Aa⟩ := M.q5 7 rfl
  obtain ⟨tP, Ad, Af, Ab, Ah, Ai⟩ := M.q5 8 rfl
  go_wp2_with fail
  clear tY Al Am Ak Ao An tX Ag Aj Ac Ae Aa tP Ad Af Ab Ah Ai
  have N := M.al1 30 #[.slice D0 us.length m0, .slice D1 ks2.length m1, .slice D2 fs2.length m2, .int .i64 tn2, .bool st2]
  clear M
  obtain ⟨aZ, W6, e1, e3, M⟩ := N
  rw [e3, e1]
  clear e1 e3
  have HV := hide (M.below : Below w.heap.size w W6)
  have HX := hide (⟨M.rowS 10 rfl, M.rowS 11 rfl, M.rowS 12 rfl⟩ : InPool W6 ts ks fs B0 B1 B2)
  have HY := hide (⟨M.rowS 5 rfl, M.rowS 6 rfl, M.rowS 7 rfl⟩ : InPool W6 us ks2 fs2 C0 C1 C2)
  have HZ := hide (⟨M.rowS 1 rfl, M.rowS 2 rfl, M.rowS 3 rfl⟩ : InPool W6 us ks2 fs2 D0 D1 D2)
  obtain ⟨tP, Ad, Af, Ab, Ah, Ai⟩ := M.q5 9 rfl
  obtain ⟨tX, Ag, Aj, Ac, Ae, Aa⟩ := M.q5 8 rfl
  obtain ⟨tY, Al, Am, Ak, Ao, An⟩ := M.q5 4 rfl
  obtain ⟨tZ, At, Ap, Aq, As, Ar⟩ := M.q5 0 rfl
  clear M
  have cP0 := fun (x : KeptW W6) => KeptW.cell Ad x
  have cP1 := fun (x : KeptW W6) => KeptW.cell Af x
  have cP2 := fun (x : KeptW W6) => KeptW.cell Ab x
  have cP3 := fun (x : KeptW W6) => KeptW.cell Ah x
  have cP4 := fun (x : KeptW W6) => KeptW.cell Ai x
  clear tP Ad Af Ab Ah Ai
  have cX0 := fun (x : KeptW W6) => KeptW.cell Ag x
  have cX1 := fun (x : KeptW W6) => KeptW.cell Aj x
  have cX2 := fun (x : KeptW W6) => KeptW.cell Ac x
  have cX3 := fun (x : KeptW W6) => KeptW.cell Ae x
  have cX4 := fun (x : KeptW W6) => KeptW.cell Aa x
  clear tX Ag Aj Ac Ae Aa
  have cY0 := fun (x : KeptW W6) => KeptW.cell Al x
  have cY1 := fun (x : KeptW W6) => KeptW.cell Am x
  have cY2 := fun (x : KeptW W6) => KeptW.cell Ak x
  have cY3 := fun (x : KeptW W6) => KeptW.cell Ao x
  have cY4 := fun (x : KeptW W6) => KeptW.cell An x
  clear tY Al Am Ak Ao An
  have cZ0 := fun (x : KeptW W6) => KeptW.cell At x
  have cZ1 := fun (x : KeptW W6) => KeptW.cell Ap x
  have cZ2 := fun (x : KeptW W6) => KeptW.cell Aq x
  have cZ3 := fun (x : KeptW W6) => KeptW.cell As x
  have cZ4 := fun (x : KeptW W6) => KeptW.cell Ar x
  clear tZ At Ap Aq As Ar
  have hx0 := KeptW.mk'_w (Below.refl W6.heap.size W6)
  generalize KeptW.mk' (Below.refl W6.heap.size W6) = x0 at hx0
  rw [← hx0]
  clear hx0
  go_wp2_with fail
  go_call (kept_call (x := x0) (likePool_same us ks2 fs2 C0 C1 C2 D0 D1 D2 f0 f1 f2 m0 m1 m2 tn2 st2 x0.w hle (InPool.below HY.out x0.below) (InPool.below HZ.out x0.below))) as r wq ⟨rfl, x1, rfl⟩
  go_wp2_with fail
  obtain ⟨pz, hpz⟩ : ∃ z, poolB a b c d e ts ks fs tn = z := ⟨_, rfl⟩
  have hE2 := hE.out
  replace hpz := hide hpz
  replace hE2 := hide hE2
  go_call (kept_call (x := x1) (sPoolOk_k e0 e1 e2 st pz x1.w (by omega) (by omega) (by omega) (InPool.below HX.out x1.below) hpz.out)) as r wq ⟨rfl, x2, rfl⟩
  cases pz
  ·go_wp2_with fail
   go_wp2
   go_ret
   exact ⟨rfl, HV.out.trans (x2.below.mono HV.out.size)⟩
  ·go_wp2_with fail
   go_call (kept_call (x := x2) (likePool_eq (hE2.out hpz.out) C0 C1 C2 B0 B1 B2 f0 f1 f2 e0 e1 e2 x2.w hle (InPool.below HY.out x2.below) (InPool.below HX.out x2.below))) as r wq ⟨rfl, x3, rfl⟩
   go_wp2
   go_ret
   exact ⟨rfl, HV.out.trans (x3.below.mono HV.out.size)⟩
 ·replace hE := hide (hE.out.1 rfl)
  obtain ⟨tY, Al, Am, Ak, Ao, An⟩ := M.q5 3 rfl
  obtain ⟨tX, Ag, Aj, Ac, Ae, Aa⟩ := M.q5 7 rfl
  obtain ⟨tP, Ad, Af, Ab, Ah, Ai⟩ := M.q5 8 rfl
  go_wp2_with fail
  clear tY Al Am Ak Ao An tX Ag Aj Ac Ae Aa tP Ad Af Ab Ah Ai
  have N := M.al1 30 #[.slice D0 us.length m0, .slice D1 ks2.length m1, .slice D2 fs2.length m2, .int .i64 tn2, .bool st2]
  clear M
  obtain ⟨aZ, W6, e1, e3, M⟩ := N
  rw [e3, e1]
  clear e1 e3
  have HV := hide (M.below : Below w.heap.size w W6)
  have HX := hide (⟨M.rowS 10 rfl, M.rowS 11 rfl, M.rowS 12 rfl⟩ : InPool W6 ts ks fs B0 B1 B2)
  have HY := hide (⟨M.rowS 5 rfl, M.rowS 6 rfl, M.rowS 7 rfl⟩ : InPool W6 us ks2 fs2 C0 C1 C2)
  have HZ := hide (⟨M.rowS 1 rfl, M.rowS 2 rfl, M.rowS 3 rfl⟩ : InPool W6 us ks2 fs2 D0 D1 D2)
  obtain ⟨tP, Ad, Af, Ab, Ah, Ai⟩ := M.q5 9 rfl
  obtain ⟨tX, Ag, Aj, Ac, Ae, Aa⟩ := M.q5 8 rfl
  obtain ⟨tY, Al, Am, Ak, Ao, An⟩ := M.q5 4 rfl
  obtain ⟨tZ, At, Ap, Aq, As, Ar⟩ := M.q5 0 rfl
  clear M
  have cP0 := fun (x : KeptW W6) => KeptW.cell Ad x
  have cP1 := fun (x : KeptW W6) => KeptW.cell Af x
  have cP2 := fun (x : KeptW W6) => KeptW.cell Ab x
  have cP3 := fun (x : KeptW W6) => KeptW.cell Ah x
  have cP4 := fun (x : KeptW W6) => KeptW.cell Ai x
  clear tP Ad Af Ab Ah Ai
  have cX0 := fun (x : KeptW W6) => KeptW.cell Ag x
  have cX1 := fun (x : KeptW W6) => KeptW.cell Aj x
  have cX2 := fun (x : KeptW W6) => KeptW.cell Ac x
  have cX3 := fun (x : KeptW W6) => KeptW.cell Ae x
  have cX4 := fun (x : KeptW W6) => KeptW.cell Aa x
  clear tX Ag Aj Ac Ae Aa
  have cY0 := fun (x : KeptW W6) => KeptW.cell Al x
  have cY1 := fun (x : KeptW W6) => KeptW.cell Am x
  have cY2 := fun (x : KeptW W6) => KeptW.cell Ak x
  have cY3 := fun (x : KeptW W6) => KeptW.cell Ao x
  have cY4 := fun (x : KeptW W6) => KeptW.cell An x
  clear tY Al Am Ak Ao An
  have cZ0 := fun (x : KeptW W6) => KeptW.cell At x
  have cZ1 := fun (x : KeptW W6) => KeptW.cell Ap x
  have cZ2 := fun (x : KeptW W6) => KeptW.cell Aq x
  have cZ3 := fun (x : KeptW W6) => KeptW.cell As x
  have cZ4 := fun (x : KeptW W6) => KeptW.cell Ar x
  clear tZ At Ap Aq As Ar
  have hx0 := KeptW.mk'_w (Below.refl W6.heap.size W6)
  generalize KeptW.mk' (Below.refl W6.heap.size W6) = x0 at hx0
  rw [← hx0]
  clear hx0
  go_wp2_with fail
  go_call (kept_call (x := x0) (likePool_same us ks2 fs2 C0 C1 C2 D0 D1 D2 f0 f1 f2 m0 m1 m2 tn2 st2 x0.w hle (InPool.below HY.out x0.below) (InPool.below HZ.out x0.below))) as r wq ⟨rfl, x1, rfl⟩
  go_wp2_with fail
  obtain ⟨k, ⟨s, l, o, w1, o1, v, t⟩, hk, hx, hs, hus, hk2, hf2, ht2, hst2, hpo, hpu⟩ := hE.out
  have hkl := get_lt hx
  have hlt := parked_last hx (fun j y hy => right_turn hpo hy) wt on
  have hfree := run_free hpo hx hs (show (parkT ⟨s, l, o, w1, o1, v, t⟩ tn wt on).s ≠ 2 by simp [parkT])
  rw [← hus] at hlt hfree
  have hul : us.length ≤ 31 := by rw [hus, List.length_set]; exact h0
  subst hk
  obtain ⟨bt, off, s', l', o', wt', on', v', t', eB, _, hx2, hb1, z0, z1, z2, z3, z4, z5, z6⟩ := HX.out.1.ts_at hkl
  rw [hx] at hx2
  injection hx2 with hx2
  injection hx2 with u0 u1 u2 u3 u4 u5 u6
  subst u0 u1 u2 u3 u4 u5 u6 eB
  have cO := fun (x : KeptW W6) => KeptW.cell z2 x
  clear z0 z1 z2 z3 z4 z5 z6 hb1 hx hs hus hpo hE hk2 hf2 ht2 hst2
  simp only at hfree
  obtain ⟨n, hn, hln⟩ := hlt
  have hw3 := hide (waiters_le us wt on)
  replace hfree := hide hfree
  replace hpu := hide hpu
  replace hn := hide hn
  replace hln := hide hln
  go_call (gWaitersOn_l us ks2 fs2 C0 C1 C2 f0 f1 f2 tn2 st2 wt on n x1.w (by omega) hn.out (InPool.below HY.out x1.below).1) as r wq ⟨LB, ld, rfl, g1⟩
  have HL := hide (g1.rowS 0 rfl : Row wq LB (icells (waitersM us wt on)))
  have g2 := g1.below
  obtain ⟨x2, rfl⟩ : ∃ y : KeptW W6, wq = y.w := ⟨KeptW.mk' (x1.below.trans (g2.mono x1.below.size)), rfl⟩
  clear g1 g2
  obtain ⟨lb, lo, u1, rfl, _, hu1, _, z1⟩ := HL.out.ks_at (k := n) (by rw [hn.out]; omega)
  rw [hln.out] at hu1
  injection hu1 with hu1
  subst hu1
  have hn40 : n ≤ 40 := by have := hw3.out; rw [hn.out] at this; omega
  clear HL hw3 hn hln
  have hn0 : (0 : Int) ≤ (n : Int) := by omega
  have hn1 : (n : Int) < (n : Int) + 1 := by omega
  have hnw : IntKind.i64.wrap ((n : Int) + 1 - 1) = (n : Int) := by rw [show (n : Int) + 1 - 1 = n by omega]; exact IntWalk.i64_in _ (by omega)
  have hk0 : (0 : Int) ≤ (k : Int) := by omega
  have hk1 : (k : Int) < (ts.length : Int) := by omega
  have hn2 : (0 : Int) < (n : Int) + 1 := by omega
  have hX1 := x2.below
  have HVx := hide (HV.out.trans (x2.below.mono HV.out.size))
  have HY2 := hide (InPool.below HY.out x2.below)
  have HY3 := hide (InPool.below HY.out x2.below).1
  replace cP0 := fun (x : KeptW x2.w) => KeptW.cell (cP0 x2) x
  replace cP1 := fun (x : KeptW x2.w) => KeptW.cell (cP1 x2) x
  replace cP2 := fun (x : KeptW x2.w) => KeptW.cell (cP2 x2) x
  replace cP3 := fun (x : KeptW x2.w) => KeptW.cell (cP3 x2) x
  replace cP4 := fun (x : KeptW x2.w) => KeptW.cell (cP4 x2) x
  replace cX0 := fun (x : KeptW x2.w) => KeptW.cell (cX0 x2) x
  replace cX1 := fun (x : KeptW x2.w) => KeptW.cell (cX1 x2) x
  replace cX2 := fun (x : KeptW x2.w) => KeptW.cell (cX2 x2) x
  replace cX3 := fun (x : KeptW x2.w) => KeptW.cell (cX3 x2) x
  replace cX4 := fun (x : KeptW x2.w) => KeptW.cell (cX4 x2) x
  replace cY0 := fun (x : KeptW x2.w) => KeptW.cell (cY0 x2) x
  replace cY1 := fun (x : KeptW x2.w) => KeptW.cell (cY1 x2) x
  replace cY2 := fun (x : KeptW x2.w) => KeptW.cell (cY2 x2) x
  replace cY3 := fun (x : KeptW x2.w) => KeptW.cell (cY3 x2) x
  replace cY4 := fun (x : KeptW x2.w) => KeptW.cell (cY4 x2) x
  replace cO := fun (x : KeptW x2.w) => KeptW.cell (cO x2) x
  have cL := fun (x : KeptW x2.w) => KeptW.cell z1 x
  clear z1 HX HY HZ HV hX1
  clear cZ0 cZ1 cZ2 cZ3 cZ4
  go_wp2_with fail
  generalize hx2w : x2.w = V2 at *
  clear hx2w
  have hx0 := KeptW.mk'_w (Below.refl V2.heap.size V2)
  generalize KeptW.mk' (Below.refl V2.heap.size V2) = y0 at hx0
  rw [← hx0]
  clear hx0
  refine region_kept (by kernel_rfl) (by kernel_rfl) ?_
  repeat (go_big_quiet_step (first | (go_at_call 22; with_reducible exact (kept_call (gRunBy_k C0 C1 C2 f0 ks2.length f1 fs2.length f2 tn2 st2 _ (by omega) (Row.below HY3.out (KeptW.below _)) hfree.out))) | (go_at_call 18; with_reducible exact (kept_call (gPoolOk_k f0 f1 f2 st2 true _ (by omega) (by omega) (InPool.below HY2.out (KeptW.below _)) hpu.out)))))
  refine wpQuiet_nil ?_
  rintro _ ⟨x3, rfl⟩
  go_wp2
  go_ret
  exact ⟨rfl, HVx.out.trans (x3.below.mono HVx.out.size)⟩
set_option maxRecDepth 100000
open Go.ChangeShapes Go.WideShapes Go.ChangeAt Go.RowKit Go.Joins Go.Deep
set_option maxHeartbeats 1600000 in
theorem fnParked_all (w : World) (A : Option Addr) (len cap : Nat) (hby : Bytes w w.heap.size A len) :
 Calls Tryz.prog 4 #[.slice A len cap] w fun r w' => r = .returned (.bool true) ∧ Below w.heap.size w w' := by
 by_cases hl : len ≤ 4096
 ·exact fnParked_any w A len cap hby hl
 ·go_enter Tryz.func4, Tryz.ntmps4
  go_wp2_with fail
  go_call (big_any A len cap _) as r w' ⟨rfl, rfl⟩
  go_wp2_with fail
  go_ret
  exact ⟨rfl, Below.refl _ _⟩
theorem fnParked_lifted (os : Os) (started : os.Started) (H : Type) (enc : TypeId × Value → H) :
 ReturnsInHanded {} Tryz.checked os 4 .any (Rows.fnParkedSpec.pre6 enc Tryz.prog Tryz.f4 Rows.fnParkedRow.domain false) (Rows.fnParkedSpec.post enc Tryz.prog Tryz.f4 false true false false) := by
 refine returnsInHanded_of_change (C := Tryz.checked) own started (by kernel_rfl) Tryz.func4
  (ChangeSpec.witness6 (enc := enc) (C := Tryz.checked) false ⟨#[], #[.slice none 0 0], []⟩ 8 (by kernel_rfl) (by kernel_rfl) (by kernel_rfl) (by kernel_rfl)) ?_
 intro W base args ds gs before hval0 hW hcnd _
 have hval : ∀ (j : Nat) t v, Tryz.f4.params[j]? = some t → args[j]? = some v → Value.okWide Tryz.prog W .any base t v := hval0
 have hW' := hW
 obtain ⟨p, q, hA0, hV, rfl, hfz, hnd⟩ := hW
 have hA : DataW.TrodAll enc Tryz.prog W 0 (fun _ => true) true Tryz.f4.params.toList args.toList ds p := hA0
 rw [Tryz.params4] at hA hval
 obtain ⟨v0, vs0, d0, ds0, p0, q0, hargs, rfl, rfl, h0, r0⟩ := trodAll_cons hA
 obtain ⟨rfl, rfl, rfl⟩ := trodAll_nil r0
 obtain rfl : args = #[v0] := by cases args; simp_all
 obtain ⟨rfl, rfl⟩ := trodVars_none hV
 have k0 := h0
 have lt0 : ∀ x ∈ p0, x.block < W.heap.size := by obtain ⟨m, hm⟩ := k0; exact DataW.trod_lt m _ _ _ hm
 obtain ⟨a0, len0, cap0, rfl⟩ := okWide_slice Tryz.underlying22 (hval 0 22 v0 rfl rfl)
 have w0 : Bytes W W.heap.size a0 len0 := by
  obtain ⟨fuel, hf⟩ := h0
  rcases open_ints Tryz.underlying22 Tryz.underlying5 (by kernel_rfl) hf with ⟨hcs, _⟩ | ⟨x, l, c, zs, hcs, _, hl, hm, hz, hx, hcell, hwz⟩
  ·simp [Value.cells] at hcs
   obtain ⟨rfl, rfl, rfl⟩ := hcs
   exact fun h => absurd h (by omega)
  ·simp [Value.cells] at hcs
   obtain ⟨rfl, rfl, rfl⟩ := hcs
   exact bytes_of_row hl hz hcell hwz
 clear hA0 hval0
 refine (fnParked_all W a0 len0 cap0 w0).mono fun e W' ⟨he, bel⟩ => ?_
 subst he
 exact ⟨_, rfl, _, _, _, [], _, [], hW', trodAll_mk1 (shut_bool Tryz.underlying4 _), (trodAll_cons_mk (Below.trod laidOut (by kernel_rfl) (of_decide_eq_true (by kernel_rfl)) k0 bel lt0) trodAll_mk0), rfl, bel.frame _, fun h => by cases h⟩
theorem fnParked_holds : Rows.FnParkedSaid :=
 OpenClaim.holds_of_wide 4 Tryz.f4 rfl rfl rfl rfl rfl rfl rfl ⟨rfl, rfl, rfl, rfl, rfl⟩ rfl rfl rfl rfl rfl (by kernel_rfl) Tryz.func4 (by kernel_rfl)
  (of_decide_eq_true (by kernel_rfl)) (by unfold Func.isWrapper; first | (rw [if_pos (by decide +kernel)]; kernel_rfl) | (rw [if_neg (by decide +kernel)]; exact ⟨rfl, rfl⟩))
  (fun os started H enc _ => fnParked_lifted os started H enc)
#print axioms fnParked_holds
end Go.Proofs.YtfjgelegojbmgaaGreat
