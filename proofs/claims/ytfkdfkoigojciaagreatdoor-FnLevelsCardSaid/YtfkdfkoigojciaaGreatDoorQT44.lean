/- Chapter 7's law of levels: the walk. The code no longer than it may be; the variable errors.errorType as it is laid. -/
import Derived.Test.YtfkdfkoigojciaaGreatDoorQT43
import Derived.Test.YtfkdfkoigojciaaGreatDoorQT03
import Derived.Test.YtfkdfkoigojciaaGreatDoorQT09
import Derived.Test.YtfkdfkoigojciaaGreatDoorQT07
import Derived.Test.YtfkdfkoigojciaaGreatDoorQT08
import Derived.Test.YtfkdfkoigojciaaGreatDoorQT04
import Derived.Test.YtfkdfkoigojciaaGreatDoorQT02
import Derived.Test.YtfkdfkoigojciaaGreatDoorQT38
import Derived.Test.YtfkdfkoigojciaaGreatDoorQT12
import Derived.Test.YtfkdfkoigojciaaGreatDoorQT35
import Derived.Test.YtfkdfkoigojciaaGreatDoorQT41
import Derived.Test.YtfkdfkoigojciaaGreatDoorQT42

namespace Go.Proofs.YtfkdfkoigojciaaGreatDoor
open Go.RowKit
set_option linter.unusedVariables false
set_option maxRecDepth 100000 in
set_option maxHeartbeats 1000000 in
theorem likePool_same (ts : List T7) (ks : List Int) (fs : List F2) (A0 A1 A2 B0 B1 B2 : Option Addr) (c0 c1 c2 d0 d1 d2 : Nat) (tn : Int) (st : Bool) (w : World) (hl : ts.length + ks.length + fs.length ≤ 1048576) (hA : InPool w ts ks fs A0 A1 A2) (hB : InPool w ts ks fs B0 B1 B2) :
 Calls Tryz.prog 29 #[.agg #[.slice A0 ts.length c0, .slice A1 ks.length c1, .slice A2 fs.length c2, .int .i64 tn, .bool st], .agg #[.slice B0 ts.length d0, .slice B1 ks.length d1, .slice B2 fs.length d2, .int .i64 tn, .bool st]] w fun r w' => r = .returned (.bool true) ∧ Below w.heap.size w w' := by
 have HA := hide hA
 have HB := hide hB
 clear hA hB
 go_enter Tryz.func29, Tryz.ntmps29
 go_wp2_with fail
 generalize hW : (w.alloc _).alloc _ = W1
 have M := Sep.e2 hW
 clear hW
 have HV := hide M.below
 obtain ⟨xb, hxb⟩ : ∃ xb, xb = w.heap.size := ⟨_, rfl⟩
 obtain ⟨yb, hyb⟩ : ∃ yb, yb = w.heap.size + 1 := ⟨_, rfl⟩
 rw [← hyb, ← hxb] at M ⊢
 obtain ⟨tX, Aj, Ab, Ad, Aa, Ai⟩ := M.q5 1 rfl
 obtain ⟨tY, Ae, Af, Ac, Ag, Ah⟩ := M.q5 0 rfl
 have HA2 := hide (InPool.below HA.out M.below)
 have HB2 := hide (InPool.below HB.out M.below)
 clear M HA HB hxb hyb tX tY
 have cX0 := fun (x : KeptW W1) => KeptW.cell Aj x
 have cX1 := fun (x : KeptW W1) => KeptW.cell Ab x
 have cX2 := fun (x : KeptW W1) => KeptW.cell Ad x
 have cX3 := fun (x : KeptW W1) => KeptW.cell Aa x
 have cX4 := fun (x : KeptW W1) => KeptW.cell Ai x
 have cY0 := fun (x : KeptW W1) => KeptW.cell Ae x
 have cY1 := fun (x : KeptW W1) => KeptW.cell Af x
 have cY2 := fun (x : KeptW W1) => KeptW.cell Ac x
 have cY3 := fun (x : KeptW W1) => KeptW.cell Ag x
 have cY4 := fun (x : KeptW W1) => KeptW.cell Ah x
 clear Aj Ab Ad Aa Ai Ae Af Ac Ag Ah
 have hx0 := KeptW.mk'_w (Below.refl W1.heap.size W1)
 generalize KeptW.mk' (Below.refl W1.heap.size W1) = x0 at hx0
 rw [← hx0]
 clear hx0
 go_wp2_with fail
 go_call (likeInts_same ks A1 B1 c1 d1 x0.w (by omega) (InPool.below HA2.out x0.below).2.1 (InPool.below HB2.out x0.below).2.1) as r Wq ⟨rfl, g3⟩
 obtain ⟨x1, rfl⟩ : ∃ y : KeptW W1, Wq = y.w := ⟨KeptW.mk' (x0.below.trans (g3.mono x0.below.size)), rfl⟩
 clear g3
 go_wp2_with fail
 go_loopw [5] (fun i wr => ∃ (k : Nat) (x : KeptW W1), k ≤ ts.length ∧ i = .int .i64 k ∧ wr = x.w) (fun i _ => ts.length - (intOf i).toNat)
 case atStart => exact ⟨0, x1, Nat.zero_le _, rfl, rfl⟩
 case round =>
  obtain ⟨k, x, hk, rfl, rfl⟩ := hrel
  by_cases hlt : k < ts.length
  ·obtain ⟨b, off, s, l, o, wt, on, v, t, eA, _, hx, hb1, z0, z1, z2, z3, z4, z5, z6⟩ := (InPool.below HA2.out x.below).1.ts_at hlt
   obtain ⟨b2, off2, s', l', o', wt', on', v', t', eB, _, hx2, hb2, y0, y1, y2, y3, y4, y5, y6⟩ := (InPool.below HB2.out x.below).1.ts_at hlt
   rw [hx] at hx2
   injection hx2 with hx2
   injection hx2 with u0 u1 u2 u3 u4 u5 u6
   subst u0 u1 u2 u3 u4 u5 u6 eA eB
   clear hx
   have e0 := KeptW.cell (W0 := x.w) (b := b) (o := off + k * 7) (z0)
   have f0 := KeptW.cell (W0 := x.w) (b := b2) (o := off2 + k * 7) (y0)
   have e1 := KeptW.cell (W0 := x.w) (b := b) (o := off + k * 7 + 1) (z1)
   have f1 := KeptW.cell (W0 := x.w) (b := b2) (o := off2 + k * 7 + 1) (y1)
   have e2 := KeptW.cell (W0 := x.w) (b := b) (o := off + k * 7 + 2) (z2)
   have f2 := KeptW.cell (W0 := x.w) (b := b2) (o := off2 + k * 7 + 2) (y2)
   have e3 := KeptW.cell (W0 := x.w) (b := b) (o := off + k * 7 + 3) (z3)
   have f3 := KeptW.cell (W0 := x.w) (b := b2) (o := off2 + k * 7 + 3) (y3)
   have e4 := KeptW.cell (W0 := x.w) (b := b) (o := off + k * 7 + 4) (z4)
   have f4 := KeptW.cell (W0 := x.w) (b := b2) (o := off2 + k * 7 + 4) (y4)
   have e5 := KeptW.cell (W0 := x.w) (b := b) (o := off + k * 7 + 5) (z5)
   have f5 := KeptW.cell (W0 := x.w) (b := b2) (o := off2 + k * 7 + 5) (y5)
   have e6 := KeptW.cell (W0 := x.w) (b := b) (o := off + k * 7 + 6) (z6)
   have f6 := KeptW.cell (W0 := x.w) (b := b2) (o := off2 + k * 7 + 6) (y6)
   clear z0 y0 z1 y1 z2 y2 z3 y3 z4 y4 z5 y5 z6 y6
   have dX0 := fun (y : KeptW x.w) => KeptW.cell (cX0 x) y
   have dX2 := fun (y : KeptW x.w) => KeptW.cell (cX2 x) y
   have dY0 := fun (y : KeptW x.w) => KeptW.cell (cY0 x) y
   have dY2 := fun (y : KeptW x.w) => KeptW.cell (cY2 x) y
   clear HA2 HB2
   go_wp2_with fail
   have hx0 := KeptW.mk'_w (Below.refl x.w.heap.size x.w)
   generalize KeptW.mk' (Below.refl x.w.heap.size x.w) = x2 at hx0
   rw [← hx0]
   clear hx0
   refine region_kept (by kernel_rfl) (by kernel_rfl) ?_
   repeat (go_big_quiet_step (fail))
   refine wpQuiet_nil ?_
   rintro _ ⟨x2, rfl⟩
   obtain ⟨y, hy⟩ : ∃ y : KeptW W1, x2.w = y.w := ⟨KeptW.mk' (x.below.trans (x2.below.mono x.below.size)), rfl⟩
   rw [hy]
   clear hy
   go_wp2
   go_roundw
   case rel => exact ⟨k + 1, y, by omega, by go_num, rfl⟩
   case measure => simp [intOf]; omega
  ·go_wp2_with fail
   go_loopw [6] (fun i wr => ∃ (k : Nat) (x : KeptW W1), k ≤ fs.length ∧ i = .int .i64 k ∧ wr = x.w) (fun i _ => fs.length - (intOf i).toNat)
   case atStart => exact ⟨0, x, Nat.zero_le _, rfl, rfl⟩
   case round =>
    clear hk hlt
    obtain ⟨k, x, hk, rfl, rfl⟩ := hrel
    by_cases hlt : k < fs.length
    ·obtain ⟨b, off, s, v, eA, _, hx, hb1, z0, z1⟩ := (InPool.below HA2.out x.below).2.2.fs_at hlt
     obtain ⟨b2, off2, s', v', eB, _, hx2, hb2, y0, y1⟩ := (InPool.below HB2.out x.below).2.2.fs_at hlt
     rw [hx] at hx2
     injection hx2 with hx2
     injection hx2 with u0 u1
     subst u0 u1 eA eB
     clear hx
     have e0 := KeptW.cell (W0 := x.w) (b := b) (o := off + k * 2) (z0)
     have f0 := KeptW.cell (W0 := x.w) (b := b2) (o := off2 + k * 2) (y0)
     have e1 := KeptW.cell (W0 := x.w) (b := b) (o := off + k * 2 + 1) (z1)
     have f1 := KeptW.cell (W0 := x.w) (b := b2) (o := off2 + k * 2 + 1) (y1)
     clear z0 y0 z1 y1
     have dX0 := fun (y : KeptW x.w) => KeptW.cell (cX0 x) y
     have dX2 := fun (y : KeptW x.w) => KeptW.cell (cX2 x) y
     have dY0 := fun (y : KeptW x.w) => KeptW.cell (cY0 x) y
     have dY2 := fun (y : KeptW x.w) => KeptW.cell (cY2 x) y
     clear HA2 HB2
     go_wp2_with fail
     have hx0 := KeptW.mk'_w (Below.refl x.w.heap.size x.w)
     generalize KeptW.mk' (Below.refl x.w.heap.size x.w) = x2 at hx0
     rw [← hx0]
     clear hx0
     refine region_kept (by kernel_rfl) (by kernel_rfl) ?_
     repeat (go_big_quiet_step (fail))
     refine wpQuiet_nil ?_
     rintro _ ⟨x2, rfl⟩
     obtain ⟨y, hy⟩ : ∃ y : KeptW W1, x2.w = y.w := ⟨KeptW.mk' (x.below.trans (x2.below.mono x.below.size)), rfl⟩
     rw [hy]
     clear hy
     go_wp2
     go_roundw
     case rel => exact ⟨k + 1, y, by omega, by go_num, rfl⟩
     case measure => simp [intOf]; omega
    ·go_wp2
     go_ret
     exact ⟨rfl, HV.out.trans (x.below.mono HV.out.size)⟩
theorem likePool_eq {us ts : List T7} {ks2 ks : List Int} {fs2 fs : List F2} {tn2 tn : Int} {st2 st : Bool} (e : us = ts ∧ ks2 = ks ∧ fs2 = fs ∧ tn2 = tn ∧ st2 = st) (A0 A1 A2 B0 B1 B2 : Option Addr) (c0 c1 c2 d0 d1 d2 : Nat) (w : World) (hl : us.length + ks2.length + fs2.length ≤ 1048576) (hA : InPool w us ks2 fs2 A0 A1 A2) (hB : InPool w ts ks fs B0 B1 B2) :
 Calls Tryz.prog 29 #[.agg #[.slice A0 us.length c0, .slice A1 ks2.length c1, .slice A2 fs2.length c2, .int .i64 tn2, .bool st2], .agg #[.slice B0 ts.length d0, .slice B1 ks.length d1, .slice B2 fs.length d2, .int .i64 tn, .bool st]] w fun r w' => r = .returned (.bool true) ∧ Below w.heap.size w w' := by
 obtain ⟨rfl, rfl, rfl, rfl, rfl⟩ := e
 exact likePool_same _ _ _ A0 A1 A2 B0 B1 B2 c0 c1 c2 d0 d1 d2 _ _ w hl hA hB
theorem sPoolOk_k {a b c d e : Int} {ts : List T7} {ks : List Int} {fs : List F2} {A0 A1 A2 : Option Addr} (c0 c1 c2 : Nat) {tn : Int} (st y : Bool) (w : World) (ht : ts.length ≤ 1048576) (hk : ks.length ≤ 1048576) (hf : fs.length ≤ 1048576) (h : InPool w ts ks fs A0 A1 A2) (hy : poolB a b c d e ts ks fs tn = y) :
 Calls Tryz.prog 30 #[.agg #[.int .i64 a, .int .i64 b, .int .i64 c, .int .i64 d, .int .i64 e], .agg #[.slice A0 ts.length c0, .slice A1 ks.length c1, .slice A2 fs.length c2, .int .i64 tn, .bool st]] w fun r w' => r = .returned (.bool y) ∧ Below w.heap.size w w' := by
 subst hy
 exact sPoolOk_any a b c d e ts ks fs A0 A1 A2 c0 c1 c2 tn st w ht hk hf h
def sliceLen : Value → Nat
 | .slice _ n _ => n
 | _ => 0
set_option maxRecDepth 100000 in
set_option maxHeartbeats 1000000 in
theorem leave_any (ps : List P3) (lb : Nat) (A : Option Addr) (c : Nat) (hl : ps.length ≤ 1048576) (w : World) (hh : HeapL ps) (h : LineIn w lb A c ps) :
 Calls Tryz.prog 82 #[.pointer (some ⟨lb, 0, none⟩)] w fun r w' => ∃ (B : Option Addr) (d : Nat) (out : List P3), r = .returned (.slice B out.length d) ∧ out.Pairwise leP ∧ out.Perm ps ∧ Sep (fps (lineL lb A c ps)) w w' (rK out.length B d (out.map P3.i) :: lineL lb A c []) := by
 obtain ⟨i0, hi, hz0, hz1, hz2⟩ := info_parts infoInt
 have qL : w.cell? ⟨lb, 0, none⟩ = some (.slice A ps.length c) := Sep.cell h 0 0 rfl
 have H := hide (⟨h, hh⟩ : _ ∧ _)
 clear h hh
 go_enter Tryz.func82, Tryz.ntmps82
 go_wp2_with fail
 go_call (len_any A ps.length c _) as r W2 ⟨rfl, rfl⟩
 go_wp2_with fail
 obtain ⟨W1, hr, ho, hg⟩ := run_make_own (P := Tryz.prog) w w.heap.size 32 2 i0 (.int .i64 0) 1 Tryz.underlying32 hi hz0 hz1 .i64 .i64 ps.length (by rw [hz2]; omega) (by unfold maxLen; omega) (Nat.le_refl _)
 rw [hr]
 have M : Sep (fps (lineL lb A c ps)) w W1 (rK 0 (some ⟨w.heap.size, 0, none⟩) ps.length [] :: lineL lb A c ps) := Sep.comp (ps := []) (rs := lineL lb A c ps) H.out.1 (sepRow ⟨hg.os, hg.tape, hg.output, hg.size, fun b hb => hg.block b hb (by simp)⟩ ho)
 clear hr ho hg qL
 go_wp2_with fail
 go_loopw [3] (fun i wr => ∃ (out qs : List P3) (B : Option Addr) (d : Nat), i = .slice B out.length d ∧ Hid ((out ++ qs).Perm ps ∧ out.Pairwise leP ∧ (∀ x ∈ out, ∀ y ∈ qs, leP x y) ∧ HeapL qs) ∧ Sep (fps (lineL lb A c ps)) w wr (rK out.length B d (out.map P3.i) :: lineL lb A c qs)) (fun i _ => (ps.length - sliceLen i : Nat))
 case atStart => exact ⟨[], ps, _, _, rfl, hide ⟨List.Perm.refl _, List.Pairwise.nil, by simp, H.out.2⟩, M⟩
 case round =>
  clear M H
  obtain ⟨out, qs, B, d, rfl, HP, M⟩ := hrel
  have hlen : out.length + qs.length = ps.length := by have := HP.out.1.length_eq; simpa using this
  have hql : qs.length ≤ 1048576 := by omega
  have hol : out.length ≤ 1048576 := by omega
  have HL := hide hlen
  clear hlen
  have qL : wr.cell? ⟨lb, 0, none⟩ = some (.slice A qs.length c) := M.cell 1 0 rfl
  have tL : lb < wr.heap.size := M.lt 1 rfl
  by_cases h0 : qs = []
  ·subst h0
   have qL2 : wr.cell? ⟨lb, 0, none⟩ = some (.slice A 0 c) := qL
   clear qL
   go_wp2_with fail
   go_call (len_any A 0 c _) as r W2 ⟨rfl, rfl⟩
   go_wp2_with fail
   go_ret
   have hp := HP.out.1
   rw [List.append_nil] at hp
   exact ⟨B, d, out, rfl, HP.out.2.1, hp, M⟩
  ·have hpos : 0 < qs.length := List.length_pos_iff.2 h0
   have hpi : (0 : Int) < (qs.length : Int) := by omega
   clear h0
   go_wp2_with fail
   go_call (len_any A qs.length c _) as r W2 ⟨rfl, rfl⟩
   go_wp2_with fail
   have hN := next_any qs lb A c hpos hql wr HP.out.2.2.2 (LineIn.of (rs := [rK out.length B d (out.map P3.i)]) (M.perm (List.perm_append_comm (l₁ := [_]) (l₂ := lineL lb A c qs))))
   obtain ⟨y, hy⟩ : ∃ y, y = at3 qs 0 := ⟨_, rfl⟩
   obtain ⟨yi, hyi⟩ : ∃ yi, yi = y.i := ⟨_, rfl⟩
   rw [← hy, ← hyi] at hN
   have HY := hide (⟨hy, hyi⟩ : _ ∧ _)
   clear hy hyi qL tL
   apply Calls.mono
   focus with_reducible exact hN
   clear hN
   rintro r W3 ⟨rfl, q2, hp2, hh2, M2⟩
   replace M := Sep.comp (ps := lineL lb A c qs) (rs := [rK out.length B d (out.map P3.i)]) (M.perm (List.perm_append_comm (l₁ := [_]) (l₂ := lineL lb A c qs))) M2
   replace M := M.perm (List.perm_append_comm (l₁ := lineL lb A c q2) (l₂ := [_]))
   clear M2
   have HQ := hide (⟨hp2, hh2⟩ : _ ∧ _)
   clear hp2 hh2 hpos hpi
   go_wp2_with (at_builtin; refine wpList_append_sep rfl (.tmp 14) (.tmp 17) 32 rfl 2 i0 (.int .i64 0) 1 8 Tryz.underlying32 hi hz0 hz1 hz2 rfl (by decide) B out.length d (icells (out.map P3.i)) rfl ((M.allocN 2 #[.int .i64 yi]).rowAt 1 rfl) ⟨W3.heap.size, 0, none⟩ 1 1 (icells [yi]) rfl rfl (rowOne W3 yi 2) (by simp [icells]) (icells_oneL _) (by unfold maxLen; omega) (by omega) ?_; intro B' d' W4 k)
   have hyq : y ∈ qs := HQ.out.1.subset (by simp)
   refine ⟨⟨out ++ [y], q2, B', d', by simp, hide ⟨?_, ?_, ?_, HQ.out.2⟩, ?_⟩, ?_⟩
   ·rw [List.append_assoc]
    exact (List.Perm.append_left out HQ.out.1).trans HP.out.1
   ·exact List.pairwise_append.2 ⟨HP.out.2.1, by simp, fun a ha b hb => by simp at hb; subst hb; exact HP.out.2.2.1 a ha _ hyq⟩
   ·intro a ha z hz
    have hzq : z ∈ qs := HQ.out.1.subset (List.mem_cons_of_mem _ hz)
    rcases List.mem_append.1 ha with ha | ha
    ·exact HP.out.2.2.1 a ha z hzq
    ·simp at ha
     subst ha
     have := HP.out.2.2.2.first z hzq
     rw [← HY.out.1] at this
     exact this
   ·have k' : Sep (fps [rK out.length B d (out.map P3.i)]) (W3.alloc (.cells #[.int .i64 yi] 2)) W4 [rK (out ++ [y]).length B' d' ((out ++ [y]).map P3.i)] := by
     rw [List.length_append, List.length_singleton, List.map_append, List.map_cons, List.map_nil, ← HY.out.2]
     unfold rK
     rw [← icells_app]
     exact k
    exact Sep.comp (ps := [rK out.length B d (out.map P3.i)]) (rs := lineL lb A c q2) (M.allocN 2 #[.int .i64 yi]).tail k'
   ·have h5 := HL.out
    have h6 := List.length_pos_of_mem hyq
    show ps.length - (out.length + 1) < ps.length - out.length
    omega
set_option maxRecDepth 100000 in
set_option maxHeartbeats 2000000 in
theorem gReadyLine_any (ts : List T7) (ks : List Int) (fs : List F2) (A0 A1 A2 : Option Addr) (c0 c1 c2 : Nat) (tn : Int) (st : Bool) (w : World) (hlen : ts.length ≤ 1048576) (h : Row w A0 (tcells ts)) :
 Calls Tryz.prog 31 #[.agg #[.slice A0 ts.length c0, .slice A1 ks.length c1, .slice A2 fs.length c2, .int .i64 tn, .bool st]] w fun r w' => ∃ (B : Option Addr) (d : Nat), r = .returned (.slice B (readyM ts).length d) ∧ Sep [] w w' [rK (readyM ts).length B d (readyM ts)] := by
 have H := hide h
 clear h
 go_enter Tryz.func31, Tryz.ntmps31
 go_wp2_with fail
 generalize hW : w.alloc _ = W1
 have M := Sep.e1 hW
 clear hW
 obtain ⟨tP, Ac, Ab, Ae, Ad, Aa⟩ := M.q5 0 rfl
 go_wp2_with fail
 go_call (readyLine_p ts w.heap.size A0 c0 _ hlen (M.cell 0 0 rfl) (H.out.below M.below)) as r W2 ⟨lb, A, c, ps, rfl, hle, hh, hp, g1⟩
 clear tP Ac Ab Ae Ad Aa
 replace M : Sep [] w W2 (lineL lb A c ps ++ [.blk (w.heap.size) 35 #[.slice A0 ts.length c0, .slice A1 ks.length c1, .slice A2 fs.length c2, .int .i64 tn, .bool st]]) := Sep.new M g1
 clear g1
 have HP := hide (⟨hh, hp⟩ : _ ∧ _)
 clear hh hp
 go_wp2_with fail
 go_call (leave_any ps lb A c (by omega) _ HP.out.1 (LineIn.of M)) as r W3 ⟨B, d, out, rfl, hs, hq, g1⟩
 replace M := Sep.comp (ps := lineL lb A c ps) M g1
 clear g1
 have hE : out.map P3.i = readyM ts := ready_eq hs (hq.trans HP.out.2)
 have hL : out.length = (readyM ts).length := by rw [← hE]; simp
 rw [hE, hL] at M
 rw [hL]
 clear hE hL hs hq HP
 go_wp2_with fail
 go_ret
 exact ⟨B, d, rfl, M.take 1⟩
theorem Row.cells7' {W : World} {ts : List T7} {A : Option Addr} {k : Nat} {s l o wt on v t : Int} (h : Row W A (tcells ts)) (hx : ts[k]? = some ⟨s, l, o, wt, on, v, t⟩) :
 ∃ (b off : Nat), A = some ⟨b, off, none⟩ ∧ W.cell? ⟨b, off + k * 7, none⟩ = some (.int .i64 s) ∧ W.cell? ⟨b, off + k * 7 + 1, none⟩ = some (.int .i64 l) ∧ W.cell? ⟨b, off + k * 7 + 2, none⟩ = some (.int .i64 o) ∧ W.cell? ⟨b, off + k * 7 + 3, none⟩ = some (.int .i64 wt) ∧
  W.cell? ⟨b, off + k * 7 + 4, none⟩ = some (.int .i64 on) ∧ W.cell? ⟨b, off + k * 7 + 5, none⟩ = some (.int .i64 v) ∧ W.cell? ⟨b, off + k * 7 + 6, none⟩ = some (.int .i64 t) := by
 obtain ⟨b, off, s', l', o', wt', on', v', t', e, _⟩ := h.ts_at (List.getElem?_eq_some_iff.1 hx).1
 subst e
 exact ⟨b, off, rfl, Row.cells7 h hx⟩
theorem gReadyLine_n (ts : List T7) (ks : List Int) (fs : List F2) (A0 A1 A2 : Option Addr) (c0 c1 c2 : Nat) (tn : Int) (st : Bool) (n : Nat) (hn : (readyM ts).length = n) (w : World) (hlen : ts.length ≤ 1048576) (h : Row w A0 (tcells ts)) :
 Calls Tryz.prog 31 #[.agg #[.slice A0 ts.length c0, .slice A1 ks.length c1, .slice A2 fs.length c2, .int .i64 tn, .bool st]] w fun r w' => ∃ (B : Option Addr) (d : Nat), r = .returned (.slice B n d) ∧ Sep [] w w' [rK (readyM ts).length B d (readyM ts)] :=
 (gReadyLine_any ts ks fs A0 A1 A2 c0 c1 c2 tn st w hlen h).mono fun r w' ⟨B, d, hr, hs⟩ => ⟨B, d, by rw [hr, hn], hs⟩
set_option maxRecDepth 100000 in
set_option maxHeartbeats 1600000 in
theorem fnLevels_any (w : World) (A : Option Addr) (len cap : Nat) (hby : Bytes w w.heap.size A len) (hl : len ≤ 4096) (hg : Laid w) :
 Calls Tryz.prog 4 #[.slice A len cap] w fun r w' => r = .returned (.bool true) ∧ Below w.heap.size w w' := by
 have HG := hide hg
 clear hg
 go_enter Tryz.func4, Tryz.ntmps4
 go_wp2_with fail
 go_call (big_any A len cap _) as r w' ⟨rfl, rfl⟩
 go_wp2_with fail
 go_call (drawLeveled_any w.heap.size w A len cap (Nat.le_refl _) hl hby) as r W1 ⟨a, b, c, d, e, ts, ks, fs, tn, st, B0, B1, B2, e0, e1, e2, wk, id, lv, rfl, h0, h1, h2, M⟩
 obtain ⟨us, ks2, fs2, tn2, st2, rp, ou, hle, hE, hS, hI⟩ := leveled_told a b c d e ts ks fs tn st wk id lv (by omega)
 replace hE := hide hE
 go_wp2_with fail
 have N := M.al2 28 #[.int .i64 a, .int .i64 b, .int .i64 c, .int .i64 d, .int .i64 e] 35 #[.slice B0 ts.length e0, .slice B1 ks.length e1, .slice B2 fs.length e2, .int .i64 tn, .bool st]
 clear M
 obtain ⟨aP, aX, W2, e1, e2, e3, M⟩ := N
 rw [e3, e2, e1]
 clear e1 e2 e3
 obtain ⟨tX, Al, Aj, Af, Ak, Ag⟩ := M.q5 0 rfl
 obtain ⟨tP, Ax, Az, Bb, Ba, Ay⟩ := M.q5 1 rfl
 go_wp2_with fail
 go_call (hI.out B0 B1 B2 e0 e1 e2 _ (HG.out.below M.below) ⟨M.rowS 2 rfl, M.rowS 3 rfl, M.rowS 4 rfl⟩) as r W3 ⟨C0, C1, C2, f0, f1, f2, rfl, g1⟩
 clear tX Al Aj Af Ak Ag tP Ax Az Bb Ba Ay
 replace M := Sep.new M g1
 simp only [zC, zN] at M
 clear g1
 obtain ⟨tX, Al, Aj, Af, Ak, Ag⟩ := M.q5 3 rfl
 obtain ⟨tP, Ax, Az, Bb, Ba, Ay⟩ := M.q5 4 rfl
 go_wp2_with fail
 clear tX Al Aj Af Ak Ag tP Ax Az Bb Ba Ay
 have N := M.al2 35 #[.slice C0 us.length f0, .slice C1 ks2.length f1, .slice C2 fs2.length f2, .int .i64 tn2, .bool st2] 38 #[.int .i64 rp, .int .i64 ou]
 clear M
 obtain ⟨aY, aYa, W4, e1, e2, e3, M⟩ := N
 rw [e3, e2, e1]
 clear e1 e2 e3
 obtain ⟨tX, Al, Aj, Af, Ak, Ag⟩ := M.q5 5 rfl
 obtain ⟨tP, Ax, Az, Bb, Ba, Ay⟩ := M.q5 6 rfl
 go_wp2_with fail
 go_call (hS.out B0 B1 B2 e0 e1 e2 _ ⟨M.rowS 7 rfl, M.rowS 8 rfl, M.rowS 9 rfl⟩) as r W5 ⟨D0, D1, D2, m0, m1, m2, rfl, g1⟩
 clear tX Al Aj Af Ak Ag tP Ax Az Bb Ba Ay
 replace M := Sep.new M g1
 simp only [zC, zN] at M
 clear g1
 clear hS hI
 go_wp2_with fail
 have N := M.al2 35 #[.slice D0 us.length m0, .slice D1 ks2.length m1, .slice D2 fs2.length m2, .int .i64 tn2, .bool st2] 38 #[.int .i64 rp, .int .i64 ou]
 clear M
 obtain ⟨aZ, aZa, W6, e1, e2, e3, M⟩ := N
 rw [e3, e2, e1]
 clear e1 e2 e3
 go_wp2_with fail
 have hs2 := M.size
 have hby2 : Bytes W6 w.heap.size A len := hby.keep fun b hb => M.below.block b (by omega)
 go_call (drawJoined_any w.heap.size _ A len cap (by omega) hl hby2) as r W7 ⟨pa, pb, pc, pd, pe, ys, yk, yf, yn, yt, E0, E1, E2, i0, i1, i2, wv, jd, rfl, k0, k1, k2, g1⟩
 replace M := Sep.new M g1
 simp only [zC, zN] at M
 clear g1
 clear hby2 hs2
 go_wp2_with fail
 have N := M.al2 28 #[.int .i64 pa, .int .i64 pb, .int .i64 pc, .int .i64 pd, .int .i64 pe] 35 #[.slice E0 ys.length i0, .slice E1 yk.length i1, .slice E2 yf.length i2, .int .i64 yn, .bool yt]
 clear M
 obtain ⟨aQ, aU, W8, e1, e2, e3, M⟩ := N
 rw [e3, e2, e1]
 clear e1 e2 e3
 obtain ⟨vs1, vk1, vf1, vn1, vt1, rq1, oq1, hle1, _, hS, hI⟩ := joined_told pa pb pc pd pe ys yk yf yn yt wv jd (by omega)
 obtain ⟨tU, Aq, As, At, Ap, Am⟩ := M.q5 0 rfl
 obtain ⟨tQ, Au, Ar, An, Ao, Aw⟩ := M.q5 1 rfl
 go_wp2_with fail
 go_call (hI.out E0 E1 E2 i0 i1 i2 _ (HG.out.below M.below) ⟨M.rowS 2 rfl, M.rowS 3 rfl, M.rowS 4 rfl⟩) as r W9 ⟨G0, G1, G2, g0, g1, g2, rfl, g1⟩
 clear tU Aq As At Ap Am tQ Au Ar An Ao Aw
 replace M := Sep.new M g1
 simp only [zC, zN] at M
 clear g1
 obtain ⟨tU, Aq, As, At, Ap, Am⟩ := M.q5 3 rfl
 obtain ⟨tQ, Au, Ar, An, Ao, Aw⟩ := M.q5 4 rfl
 go_wp2_with fail
 clear tU Aq As At Ap Am tQ Au Ar An Ao Aw
 have N := M.al2 35 #[.slice G0 vs1.length g0, .slice G1 vk1.length g1, .slice G2 vf1.length g2, .int .i64 vn1, .bool vt1] 38 #[.int .i64 rq1, .int .i64 oq1]
 clear M
 obtain ⟨aJ, aJa, W10, e1, e2, e3, M⟩ := N
 rw [e3, e2, e1]
 clear e1 e2 e3
 obtain ⟨tU, Aq, As, At, Ap, Am⟩ := M.q5 5 rfl
 obtain ⟨tQ, Au, Ar, An, Ao, Aw⟩ := M.q5 6 rfl
 go_wp2_with fail
 go_call (hS.out E0 E1 E2 i0 i1 i2 _ ⟨M.rowS 7 rfl, M.rowS 8 rfl, M.rowS 9 rfl⟩) as r W11 ⟨H0, H1, H2, n0, n1, n2, rfl, g1⟩
 clear tU Aq As At Ap Am tQ Au Ar An Ao Aw
 replace M := Sep.new M g1
 simp only [zC, zN] at M
 clear g1
 clear hS hI
 obtain ⟨tU, Aq, As, At, Ap, Am⟩ := M.q5 8 rfl
 obtain ⟨tQ, Au, Ar, An, Ao, Aw⟩ := M.q5 9 rfl
 go_wp2_with fail
 clear tU Aq As At Ap Am tQ Au Ar An Ao Aw
 have N := M.al2 35 #[.slice H0 vs1.length n0, .slice H1 vk1.length n1, .slice H2 vf1.length n2, .int .i64 vn1, .bool vt1] 38 #[.int .i64 rq1, .int .i64 oq1]
 clear M
 obtain ⟨aJz, aJza, W12, e1, e2, e3, M⟩ := N
 rw [e3, e2, e1]
 clear e1 e2 e3
 obtain ⟨vs2, vk2, vf2, vn2, vt2, rq2, oq2, hle2, _, hS, hI⟩ := cancelledby_told pa pb pc pd pe ys yk yf yn yt wv jd (by omega)
 obtain ⟨tU, Aq, As, At, Ap, Am⟩ := M.q5 10 rfl
 obtain ⟨tQ, Au, Ar, An, Ao, Aw⟩ := M.q5 11 rfl
 go_wp2_with fail
 go_call (hI.out E0 E1 E2 i0 i1 i2 _ (HG.out.below M.below) ⟨M.rowS 12 rfl, M.rowS 13 rfl, M.rowS 14 rfl⟩) as r W13 ⟨I0, I1, I2, q0, q1, q2, rfl, g1⟩
 clear tU Aq As At Ap Am tQ Au Ar An Ao Aw
 replace M := Sep.new M g1
 simp only [zC, zN] at M
 clear g1
 obtain ⟨tU, Aq, As, At, Ap, Am⟩ := M.q5 13 rfl
 obtain ⟨tQ, Au, Ar, An, Ao, Aw⟩ := M.q5 14 rfl
 go_wp2_with fail
 clear tU Aq As At Ap Am tQ Au Ar An Ao Aw
 have N := M.al2 35 #[.slice I0 vs2.length q0, .slice I1 vk2.length q1, .slice I2 vf2.length q2, .int .i64 vn2, .bool vt2] 38 #[.int .i64 rq2, .int .i64 oq2]
 clear M
 obtain ⟨aK, aKa, W14, e1, e2, e3, M⟩ := N
 rw [e3, e2, e1]
 clear e1 e2 e3
 obtain ⟨tU, Aq, As, At, Ap, Am⟩ := M.q5 15 rfl
 obtain ⟨tQ, Au, Ar, An, Ao, Aw⟩ := M.q5 16 rfl
 go_wp2_with fail
 go_call (hS.out E0 E1 E2 i0 i1 i2 _ ⟨M.rowS 17 rfl, M.rowS 18 rfl, M.rowS 19 rfl⟩) as r W15 ⟨L0, L1, L2, r0, r1, r2, rfl, g1⟩
 clear tU Aq As At Ap Am tQ Au Ar An Ao Aw
 replace M := Sep.new M g1
 simp only [zC, zN] at M
 clear g1
 clear hS hI
 obtain ⟨Bt, Br, Ci⟩ := M.q2 23 rfl
 obtain ⟨tZ, Bz, Cc, Ca, Bq, Bv⟩ := M.q5 24 rfl
 obtain ⟨Av, Ah, Ai⟩ := M.q2 28 rfl
 obtain ⟨tY, Ae, Ac, Aa, Ab, Ad⟩ := M.q5 29 rfl
 go_wp2_with fail
 clear Bt Br Ci tZ Bz Cc Ca Bq Bv Av Ah Ai tY Ae Ac Aa Ab Ad
 have N := M.al2 35 #[.slice L0 vs2.length r0, .slice L1 vk2.length r1, .slice L2 vf2.length r2, .int .i64 vn2, .bool vt2] 38 #[.int .i64 rq2, .int .i64 oq2]
 clear M
 obtain ⟨aKz, aKza, W16, e1, e2, e3, M⟩ := N
 rw [e3, e2, e1]
 clear e1 e2 e3
 obtain ⟨tKza, qKza0, qKza1⟩ := M.q2 0 rfl
 obtain ⟨Bl, Bf, Bn, Bk, Bc, Bg⟩ := M.q5 1 rfl
 obtain ⟨Bd, Bi, Bh⟩ := M.q2 5 rfl
 obtain ⟨tK, Bm, Bp, Be, Bo, Bj⟩ := M.q5 6 rfl
 obtain ⟨tJza, qJza0, qJza1⟩ := M.q2 10 rfl
 obtain ⟨Cg, Cl, Cj, Cb, Bx, Bw⟩ := M.q5 11 rfl
 obtain ⟨Cd, Ch, Bu⟩ := M.q2 15 rfl
 obtain ⟨tJ, By, Ce, Bs, Cf, Ck⟩ := M.q5 16 rfl
 obtain ⟨Bt, Br, Ci⟩ := M.q2 25 rfl
 obtain ⟨tZ, Bz, Cc, Ca, Bq, Bv⟩ := M.q5 26 rfl
 obtain ⟨Av, Ah, Ai⟩ := M.q2 30 rfl
 obtain ⟨tY, Ae, Ac, Aa, Ab, Ad⟩ := M.q5 31 rfl
 go_wp2_with fail
 go_call (likePool_same us ks2 fs2 C0 C1 C2 D0 D1 D2 f0 f1 f2 m0 m1 m2 tn2 st2 _ hle ⟨M.rowS 32 rfl, M.rowS 33 rfl, M.rowS 34 rfl⟩ ⟨M.rowS 27 rfl, M.rowS 28 rfl, M.rowS 29 rfl⟩) as r W17 ⟨rfl, g1⟩
 clear tKza qKza0 qKza1 Bl Bf Bn Bk Bc Bg Bd Bi Bh tK Bm Bp Be Bo Bj tJza qJza0 qJza1 Cg Cl Cj Cb Bx Bw Cd Ch Bu tJ By Ce Bs Cf Ck Bt Br Ci tZ Bz Cc Ca Bq Bv Av Ah Ai tY Ae Ac Aa Ab Ad
 replace M := M.call g1
 clear g1
 obtain ⟨tKza, qKza0, qKza1⟩ := M.q2 0 rfl
 obtain ⟨Bl, Bf, Bn, Bk, Bc, Bg⟩ := M.q5 1 rfl
 obtain ⟨Bd, Bi, Bh⟩ := M.q2 5 rfl
 obtain ⟨tK, Bm, Bp, Be, Bo, Bj⟩ := M.q5 6 rfl
 obtain ⟨tJza, qJza0, qJza1⟩ := M.q2 10 rfl
 obtain ⟨Cg, Cl, Cj, Cb, Bx, Bw⟩ := M.q5 11 rfl
 obtain ⟨Cd, Ch, Bu⟩ := M.q2 15 rfl
 obtain ⟨tJ, By, Ce, Bs, Cf, Ck⟩ := M.q5 16 rfl
 obtain ⟨Av, Ah, Ai⟩ := M.q2 30 rfl
 obtain ⟨tY, Ae, Ac, Aa, Ab, Ad⟩ := M.q5 31 rfl
 go_wp2_with fail
 go_call (likePool_same vs1 vk1 vf1 G0 G1 G2 H0 H1 H2 g0 g1 g2 n0 n1 n2 vn1 vt1 _ hle1 ⟨M.rowS 17 rfl, M.rowS 18 rfl, M.rowS 19 rfl⟩ ⟨M.rowS 12 rfl, M.rowS 13 rfl, M.rowS 14 rfl⟩) as r W18 ⟨rfl, g1⟩
 clear tKza qKza0 qKza1 Bl Bf Bn Bk Bc Bg Bd Bi Bh tK Bm Bp Be Bo Bj tJza qJza0 qJza1 Cg Cl Cj Cb Bx Bw Cd Ch Bu tJ By Ce Bs Cf Ck Av Ah Ai tY Ae Ac Aa Ab Ad
 replace M := M.call g1
 clear g1
 obtain ⟨tKza, qKza0, qKza1⟩ := M.q2 0 rfl
 obtain ⟨Bl, Bf, Bn, Bk, Bc, Bg⟩ := M.q5 1 rfl
 obtain ⟨Bd, Bi, Bh⟩ := M.q2 5 rfl
 obtain ⟨tK, Bm, Bp, Be, Bo, Bj⟩ := M.q5 6 rfl
 obtain ⟨Av, Ah, Ai⟩ := M.q2 30 rfl
 obtain ⟨tY, Ae, Ac, Aa, Ab, Ad⟩ := M.q5 31 rfl
 go_wp2_with fail
 go_call (likePool_same vs2 vk2 vf2 I0 I1 I2 L0 L1 L2 q0 q1 q2 r0 r1 r2 vn2 vt2 _ hle2 ⟨M.rowS 7 rfl, M.rowS 8 rfl, M.rowS 9 rfl⟩ ⟨M.rowS 2 rfl, M.rowS 3 rfl, M.rowS 4 rfl⟩) as r W19 ⟨rfl, g1⟩
 clear tKza qKza0 qKza1 Bl Bf Bn Bk Bc Bg Bd Bi Bh tK Bm Bp Be Bo Bj Av Ah Ai tY Ae Ac Aa Ab Ad
 replace M := M.call g1
 clear g1
 by_cases hr : rp = 1
 ·subst hr
  obtain ⟨hpo, k, ⟨s, l, o, w1, o1, v, t⟩, rfl, hx, hus, hou, hre⟩ := hE.out.1 rfl
  simp only at hus hou
  clear hE hre
  rw [hou] at M
  clear hou
  have hkl : k < ts.length := get_lt hx
  have hux : us[k]? = some ⟨s, lv, o, w1, o1, v, t⟩ := by rw [hus]; exact List.getElem?_set_self hkl
  have hcnt : (readyM us).length = (readyM ts).length := by
   rw [ready_count, ready_count, hus]
   exact countM_same ts hx rfl
  have hul : us.length = ts.length := by rw [hus]; simp
  replace hcnt := hide hcnt
  have hk0 : (0 : Int) ≤ (k : Int) := by omega
  have hk1 : (k : Int) < (us.length : Int) := by omega
  have hk2 : (k : Int) < (ts.length : Int) := by omega
  have hul2 : us.length ≤ 1048576 := by omega
  clear hus hul
  obtain ⟨bX, oX, eX, z0, z1, z2, z3, z4, z5, z6⟩ := (M.rowS 37 rfl).cells7' hx
  subst eX
  obtain ⟨bY, oY, eY, y0, y1, y2, y3, y4, y5, y6⟩ := (M.rowS 32 rfl).cells7' hux
  subst eY
  obtain ⟨Av, Ah, Ai⟩ := M.q2 30 rfl
  obtain ⟨tY, Ae, Ac, Aa, Ab, Ad⟩ := M.q5 31 rfl
  obtain ⟨tX, Al, Aj, Af, Ak, Ag⟩ := M.q5 35 rfl
  have lbX : bX < W19.heap.size := World.block_lt_of_cell? _ _ z0
  go_wp2_with fail
  clear z0 z1 z2 z3 z4 z5 z6 y0 y1 y2 y3 y4 y5 y6 lbX
  clear Av Ah Ai tY Ae Ac Aa Ab Ad tX Al Aj Af Ak Ag
  have N := M.al1 45 #[.int .i64 s, .int .i64 l, .int .i64 o, .int .i64 w1, .int .i64 o1, .int .i64 v, .int .i64 t]
  clear M
  obtain ⟨atb, W20, e1, e3, M⟩ := N
  rw [e3, e1]
  clear e1 e3
  have HV := hide (M.below : Below w.heap.size w W20)
  have HX := hide (⟨M.rowS 38 rfl, M.rowS 39 rfl, M.rowS 40 rfl⟩ : InPool W20 ts ks fs (some ⟨bX, oX, none⟩) B1 B2)
  have HY := hide (⟨M.rowS 33 rfl, M.rowS 34 rfl, M.rowS 35 rfl⟩ : InPool W20 us ks2 fs2 (some ⟨bY, oY, none⟩) C1 C2)
  obtain ⟨tX, Al, Aj, Af, Ak, Ag⟩ := M.q5 36 rfl
  obtain ⟨tY, Ae, Ac, Aa, Ab, Ad⟩ := M.q5 32 rfl
  obtain ⟨Av, Ah, Ai⟩ := M.q2 31 rfl
  obtain ⟨Ct, Cs, Cm, Cn, Cp, Cr, Cq, Co⟩ := M.q7 0 rfl
  clear M
  have cX0 := fun (x : KeptW W20) => KeptW.cell Al x
  have cX1 := fun (x : KeptW W20) => KeptW.cell Aj x
  have cX2 := fun (x : KeptW W20) => KeptW.cell Af x
  have cX3 := fun (x : KeptW W20) => KeptW.cell Ak x
  have cX4 := fun (x : KeptW W20) => KeptW.cell Ag x
  clear tX Al Aj Af Ak Ag
  have cY0 := fun (x : KeptW W20) => KeptW.cell Ae x
  have cY1 := fun (x : KeptW W20) => KeptW.cell Ac x
  have cY2 := fun (x : KeptW W20) => KeptW.cell Aa x
  have cY3 := fun (x : KeptW W20) => KeptW.cell Ab x
  have cY4 := fun (x : KeptW W20) => KeptW.cell Ad x
  clear tY Ae Ac Aa Ab Ad
  have cYa0 := fun (x : KeptW W20) => KeptW.cell Ah x
  have cYa1 := fun (x : KeptW W20) => KeptW.cell Ai x
  clear Av Ah Ai
  have ctb0 := fun (x : KeptW W20) => KeptW.cell Cs x
  have ctb1 := fun (x : KeptW W20) => KeptW.cell Cm x
  have ctb2 := fun (x : KeptW W20) => KeptW.cell Cn x
  have ctb3 := fun (x : KeptW W20) => KeptW.cell Cp x
  have ctb4 := fun (x : KeptW W20) => KeptW.cell Cr x
  have ctb5 := fun (x : KeptW W20) => KeptW.cell Cq x
  have ctb6 := fun (x : KeptW W20) => KeptW.cell Co x
  clear Ct Cs Cm Cn Cp Cr Cq Co
  have hx0 := KeptW.mk'_w (Below.refl W20.heap.size W20)
  generalize KeptW.mk' (Below.refl W20.heap.size W20) = x0 at hx0
  rw [← hx0]
  clear hx0
  have zc := HX.out.1.cells7 hx
  obtain ⟨z0, z1, z2, z3, z4, z5, z6⟩ := zc
  have yc := HY.out.1.cells7 hux
  obtain ⟨_, y1, _⟩ := yc
  have cx0 := fun (x : KeptW W20) => KeptW.cell (z0) x
  have cx1 := fun (x : KeptW W20) => KeptW.cell (z1) x
  have cx2 := fun (x : KeptW W20) => KeptW.cell (z2) x
  have cx3 := fun (x : KeptW W20) => KeptW.cell (z3) x
  have cx4 := fun (x : KeptW W20) => KeptW.cell (z4) x
  have cx5 := fun (x : KeptW W20) => KeptW.cell (z5) x
  have cx6 := fun (x : KeptW W20) => KeptW.cell (z6) x
  have cy1 := fun (x : KeptW W20) => KeptW.cell (y1) x
  clear z0 z1 z2 z3 z4 z5 z6 y1 hx hux
  refine wp_region_T (S := (fun w' => ∃ x : KeptW W20, w' = x.w)) (ks := []) (by kernel_rfl) ⟨KeptW.mk' x0.below.drew, rfl⟩ (fun hHeld => ?_)
  generalize x0.w.drew = wR at hHeld ⊢
  refine tkYa 0 _ rfl (fun _ => hHeld) ?_
  try simp only [Act.put, zI, zZ, zS]
  refine tkL 1 ?v1u2 rfl ?hy1u2 hHeld ?_
  case hy1u2 => (intro w hSw; obtain ⟨xq, rfl⟩ := hSw; go_simp; all_goals with_reducible rfl)
  try simp only [Act.put, zI, zZ, zS]
  refine tkYa 2 _ rfl (fun _ => hHeld) ?_
  try simp only [Act.put, zI, zZ, zS]
  refine tkYa 3 _ rfl (fun _ => hHeld) ?_
  try simp only [Act.put, zI, zZ, zS]
  refine tkYa 4 _ rfl (fun _ => hHeld) ?_
  try simp only [Act.put, zI, zZ, zS]
  refine tkL 5 ?v5u6 rfl ?hy5u6 hHeld ?_
  case hy5u6 => (intro w hSw; obtain ⟨xq, rfl⟩ := hSw; go_simp; all_goals with_reducible rfl)
  try simp only [Act.put, zI, zZ, zS]
  refine tkYa 6 _ rfl (fun _ => hHeld) ?_
  try simp only [Act.put, zI, zZ, zS]
  refine tkYa 7 _ rfl (fun _ => hHeld) ?_
  try simp only [Act.put, zI, zZ, zS]
  refine tkYa 8 _ rfl (fun _ => hHeld) ?_
  try simp only [Act.put, zI, zZ, zS]
  refine tkL 9 ?v9u10 rfl ?hy9u10 hHeld ?_
  case hy9u10 => (intro w hSw; obtain ⟨xq, rfl⟩ := hSw; go_simp; all_goals with_reducible rfl)
  try simp only [Act.put, zI, zZ, zS]
  refine tkYa 10 _ rfl (fun _ => hHeld) ?_
  try simp only [Act.put, zI, zZ, zS]
  refine tkL 11 ?v11u12 rfl ?hy11u12 hHeld ?_
  case hy11u12 => (intro w hSw; obtain ⟨xq, rfl⟩ := hSw; go_simp; all_goals with_reducible rfl)
  try simp only [Act.put, zI, zZ, zS]
  refine tkYa 12 _ rfl (fun _ => hHeld) ?_
  try simp only [Act.put, zI, zZ, zS]
  refine tkYa 13 _ rfl (fun _ => hHeld) ?_
  try simp only [Act.put, zI, zZ, zS]
  refine tkL 14 ?v14u15 rfl ?hy14u15 hHeld ?_
  case hy14u15 => (intro w hSw; obtain ⟨xq, rfl⟩ := hSw; go_simp; all_goals with_reducible rfl)
  try simp only [Act.put, zI, zZ, zS]
  refine tkYa 15 _ rfl (fun _ => hHeld) ?_
  try simp only [Act.put, zI, zZ, zS]
  refine tkYa 16 _ rfl (fun _ => hHeld) ?_
  try simp only [Act.put, zI, zZ, zS]
  refine tkYa 17 _ rfl (fun _ => hHeld) ?_
  try simp only [Act.put, zI, zZ, zS]
  refine tkYa 18 _ rfl (fun _ => hHeld) ?_
  try simp only [Act.put, zI, zZ, zS]
  refine tkL 19 ?v19u20 rfl ?hy19u20 hHeld ?_
  case hy19u20 => (intro w hSw; obtain ⟨xq, rfl⟩ := hSw; go_simp; all_goals with_reducible rfl)
  try simp only [Act.put, zI, zZ, zS]
  refine tkYa 20 _ rfl (fun _ => hHeld) ?_
  try simp only [Act.put, zI, zZ, zS]
  refine tkL 21 ?v21u22 rfl ?hy21u22 hHeld ?_
  case hy21u22 => (intro w hSw; obtain ⟨xq, rfl⟩ := hSw; go_simp; all_goals with_reducible rfl)
  try simp only [Act.put, zI, zZ, zS]
  refine tkYa 22 _ rfl (fun _ => hHeld) ?_
  try simp only [Act.put, zI, zZ, zS]
  refine tkYa 23 _ rfl (fun _ => hHeld) ?_
  try simp only [Act.put, zI, zZ, zS]
  refine tkYa 24 _ rfl (fun _ => hHeld) ?_
  try simp only [Act.put, zI, zZ, zS]
  refine tkL 25 ?v25u26 rfl ?hy25u26 hHeld ?_
  case hy25u26 => (intro w hSw; obtain ⟨xq, rfl⟩ := hSw; go_simp; all_goals with_reducible rfl)
  try simp only [Act.put, zI, zZ, zS]
  refine tkYa 26 _ rfl (fun _ => hHeld) ?_
  try simp only [Act.put, zI, zZ, zS]
  refine tkYa 27 _ rfl (fun _ => hHeld) ?_
  try simp only [Act.put, zI, zZ, zS]
  refine tkYa 28 _ rfl (fun _ => hHeld) ?_
  try simp only [Act.put, zI, zZ, zS]
  refine tkL 29 ?v29u30 rfl ?hy29u30 hHeld ?_
  case hy29u30 => (intro w hSw; obtain ⟨xq, rfl⟩ := hSw; go_simp; all_goals with_reducible rfl)
  try simp only [Act.put, zI, zZ, zS]
  refine tkL 32 ?v32u31 rfl ?hy32u31 hHeld ?_
  case hy32u31 => (intro w hSw; obtain ⟨xq, rfl⟩ := hSw; go_simp; all_goals with_reducible rfl)
  try simp only [Act.put, zI, zZ, zS]
  obtain ⟨x1, rfl⟩ := hHeld
  refine wpAnyT_callL (i := 30) rfl (by kernel_rfl) (fun K hK => ?_)
  go_simp
  refine Calls.mono (by with_reducible exact (gReadyLine_n us ks2 fs2 (some ⟨bY, oY, none⟩) C1 C2 f0 f1 f2 tn2 st2 _ hcnt.out x1.w (by omega) (Row.below HY.out.1 x1.below))) ?_
  rintro r wq ⟨LB, ld, rfl, g1⟩
  have g2 := g1.below
  go_wp2_with fail
  refine hK.out _ _ ?_ (fun hHeld => ?_)
  ·exact ⟨KeptW.mk' (x1.below.trans (g2.mono x1.below.size)), rfl⟩
  clear hK K g1 g2
  try simp only [Act.put, zI, zZ, zS]
  refine tkYa 31 _ rfl (fun _ => hHeld) ?_
  try simp only [Act.put, zI, zZ, zS]
  obtain ⟨x2, rfl⟩ := hHeld
  refine wpAnyT_callL (i := 33) rfl (by kernel_rfl) (fun K hK => ?_)
  go_simp
  refine Calls.mono (by with_reducible exact (gReadyLine_n ts ks fs (some ⟨bX, oX, none⟩) B1 B2 e0 e1 e2 tn st _ rfl x2.w (by omega) (Row.below HX.out.1 x2.below))) ?_
  rintro r wq ⟨LC, lc, rfl, g1⟩
  have g2 := g1.below
  go_wp2_with fail
  refine hK.out _ _ ?_ (fun hHeld => ?_)
  ·exact ⟨KeptW.mk' (x2.below.trans (g2.mono x2.below.size)), rfl⟩
  clear hK K g1 g2
  try simp only [Act.put, zI, zZ, zS]
  refine tkYa 34 _ rfl (fun _ => hHeld) ?_
  try simp only [Act.put, zI, zZ, zS]
  refine tkYa 35 _ rfl (fun _ => hHeld) ?_
  try simp only [Act.put, zI, zZ, zS]
  refine tkYa 36 _ rfl (fun _ => hHeld) ?_
  try simp only [Act.put, zI, zZ, zS]
  refine tkYa 37 _ rfl (fun _ => hHeld) ?_
  try simp only [Act.put, zI, zZ, zS]
  obtain ⟨x3, rfl⟩ := hHeld
  refine wpAnyT_done (by kernel_rfl) ?_ _
  go_wp2
  go_ret
  exact ⟨rfl, HV.out.trans (x3.below.mono HV.out.size)⟩
 ·have hr3 : (rp == 1) = false := by simpa using hr
  have hE3 := hide (hE.out.2 hr)
  clear hE
  obtain ⟨pz, hpz⟩ : ∃ z, poolB a b c d e ts ks fs tn = z := ⟨_, rfl⟩
  replace hpz := hide hpz
  obtain ⟨Av, Ah, Ai⟩ := M.q2 30 rfl
  obtain ⟨tY, Ae, Ac, Aa, Ab, Ad⟩ := M.q5 31 rfl
  obtain ⟨tX, Al, Aj, Af, Ak, Ag⟩ := M.q5 35 rfl
  obtain ⟨tP, Ax, Az, Bb, Ba, Ay⟩ := M.q5 36 rfl
  go_wp2_with fail
  go_call (sPoolOk_k e0 e1 e2 st pz _ (by omega) (by omega) (by omega) ⟨M.rowS 37 rfl, M.rowS 38 rfl, M.rowS 39 rfl⟩ hpz.out) as r W21 ⟨rfl, g1⟩
  clear Av Ah Ai tY Ae Ac Aa Ab Ad tX Al Aj Af Ak Ag tP Ax Az Bb Ba Ay
  replace M := M.call g1
  clear g1
  cases pz
  ·go_wp2_with fail
   go_ret
   exact ⟨rfl, M.below⟩
  ·obtain ⟨tY, Ae, Ac, Aa, Ab, Ad⟩ := M.q5 31 rfl
   obtain ⟨tX, Al, Aj, Af, Ak, Ag⟩ := M.q5 35 rfl
   go_wp2_with fail
   go_call (likePool_eq (hE3.out hpz.out) C0 C1 C2 B0 B1 B2 f0 f1 f2 e0 e1 e2 _ hle ⟨M.rowS 32 rfl, M.rowS 33 rfl, M.rowS 34 rfl⟩ ⟨M.rowS 37 rfl, M.rowS 38 rfl, M.rowS 39 rfl⟩) as r W22 ⟨rfl, g1⟩
   clear tY Ae Ac Aa Ab Ad tX Al Aj Af Ak Ag
   replace M := M.call g1
   clear g1
   go_wp2_with fail
   go_ret
   exact ⟨rfl, M.below⟩
end Go.Proofs.YtfkdfkoigojciaaGreatDoor
