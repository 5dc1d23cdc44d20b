/- The cells of one task in a row, wherever the row lies. No condition. -/
import Derived.Test.YtfjgelegojbmgaaGreatQFnTaken01
import Derived.Test.YtfjgelegojbmgaaGreatQFnTaken07
import Derived.Test.YtfjgelegojbmgaaGreatQB08
import Derived.Test.YtfjgelegojbmgaaGreatQB09
import Derived.Test.YtfjgelegojbmgaaGreatQB05
import Derived.Test.YtfjgelegojbmgaaGreatQB02
import Derived.Test.YtfjgelegojbmgaaGreatQFnTaken05
import Derived.Test.YtfjgelegojbmgaaGreatQB41

namespace Go.Proofs.YtfjgelegojbmgaaGreat
open Go.RowKit
set_option linter.unusedVariables false
theorem likePool_eq {us ts : List T7} {ks2 ks : List Int} {fs2 fs : List F2} {tn2 tn : Int} {st2 st : Bool} (e : us = ts ∧ ks2 = ks ∧ fs2 = fs ∧ tn2 = tn ∧ st2 = st) (A0 A1 A2 B0 B1 B2 : Option Addr) (c0 c1 c2 d0 d1 d2 : Nat) (w : World) (hl : us.length + ks2.length + fs2.length ≤ 1048576) (hA : InPool w us ks2 fs2 A0 A1 A2) (hB : InPool w ts ks fs B0 B1 B2) :
 Calls Tryz.prog 14 #[.agg #[.slice A0 us.length c0, .slice A1 ks2.length c1, .slice A2 fs2.length c2, .int .i64 tn2, .bool st2], .agg #[.slice B0 ts.length d0, .slice B1 ks.length d1, .slice B2 fs.length d2, .int .i64 tn, .bool st]] w fun r w' => r = .returned (.bool true) ∧ Below w.heap.size w w' := by
 obtain ⟨rfl, rfl, rfl, rfl, rfl⟩ := e
 exact likePool_same _ _ _ A0 A1 A2 B0 B1 B2 c0 c1 c2 d0 d1 d2 _ _ w hl hA hB
theorem gRunBy_k {ts : List T7} {wk y : Int} (A0 A1 A2 : Option Addr) (c0 n1 c1 n2 c2 : Nat) (tn : Int) (st : Bool) (w : World) (hlen : ts.length ≤ 1048576) (h0 : Row w A0 (tcells ts)) (hy : runM ts wk 0 = y) :
 Calls Tryz.prog 22 #[.agg #[.slice A0 ts.length c0, .slice A1 n1 c1, .slice A2 n2 c2, .int .i64 tn, .bool st], .int .i64 wk] w fun r w' => r = .returned (.int .i64 y) ∧ Below w.heap.size w w' := by
 subst hy
 exact gRunBy_any ts A0 A1 A2 c0 n1 c1 n2 c2 tn st wk w hlen h0
def sliceLen : Value → Nat
 | .slice _ n _ => n
 | _ => 0
set_option maxRecDepth 100000 in
set_option maxHeartbeats 1000000 in
theorem leave_any (ps : List P3) (lb : Nat) (A : Option Addr) (c : Nat) (hl : ps.length ≤ 1048576) (w : World) (hh : HeapL ps) (h : LineIn w lb A c ps) :
 Calls Tryz.prog 56 #[.pointer (some ⟨lb, 0, none⟩)] w fun r w' => ∃ (B : Option Addr) (d : Nat) (out : List P3), r = .returned (.slice B out.length d) ∧ out.Pairwise leP ∧ out.Perm ps ∧ Sep (fps (lineL lb A c ps)) w w' (rK out.length B d (out.map P3.i) :: lineL lb A c []) := by
 obtain ⟨i0, hi, hz0, hz1, hz2⟩ := info_parts infoInt
 have qL : w.cell? ⟨lb, 0, none⟩ = some (.slice A ps.length c) := Sep.cell h 0 0 rfl
 have H := hide (⟨h, hh⟩ : _ ∧ _)
 clear h hh
 go_enter Tryz.func56, Tryz.ntmps56
 go_wp2_with fail
 go_call (len_any A ps.length c _) as r W2 ⟨rfl, rfl⟩
 go_wp2_with fail
 obtain ⟨W1, hr, ho, hg⟩ := run_make_own (P := Tryz.prog) w w.heap.size 27 2 i0 (.int .i64 0) 1 Tryz.underlying27 hi hz0 hz1 .i64 .i64 ps.length (by rw [hz2]; omega) (by unfold maxLen; omega) (Nat.le_refl _)
 rw [hr]
 have M : Sep (fps (lineL lb A c ps)) w W1 (rK 0 (some ⟨w.heap.size, 0, none⟩) ps.length [] :: lineL lb A c ps) := Sep.comp (ps := []) (rs := lineL lb A c ps) H.out.1 (sepRow ⟨hg.os, hg.tape, hg.output, hg.size, fun b hb => hg.block b hb (by simp)⟩ ho)
 clear hr ho hg qL
 go_wp2_with fail
 go_loopw [3] (fun i wr => ∃ (out qs : List P3) (B : Option Addr) (d : Nat), i = .slice B out.length d ∧ Hid ((out ++ qs).Perm ps ∧ out.Pairwise leP ∧ (∀ x ∈ out, ∀ y ∈ qs, leP x y) ∧ HeapL qs) ∧ Sep (fps (lineL lb A c ps)) w wr (rK out.length B d (out.map P3.i) :: lineL lb A c qs)) (fun i _ => (ps.length - sliceLen i : Nat))
 case atStart => exact ⟨[], ps, _, _, rfl, hide ⟨List.Perm.refl _, List.Pairwise.nil, by simp, H.out.2⟩, M⟩
 case round =>
  clear M H
  obtain ⟨out, qs, B, d, rfl, HP, M⟩ := hrel
  have hlen : out.length + qs.length = ps.length := by have := HP.out.1.length_eq; simpa using this
  have hql : qs.length ≤ 1048576 := by omega
  have hol : out.length ≤ 1048576 := by omega
  have HL := hide hlen
  clear hlen
  have qL : wr.cell? ⟨lb, 0, none⟩ = some (.slice A qs.length c) := M.cell 1 0 rfl
  have tL : lb < wr.heap.size := M.lt 1 rfl
  by_cases h0 : qs = []
  ·subst h0
   have qL2 : wr.cell? ⟨lb, 0, none⟩ = some (.slice A 0 c) := qL
   clear qL
   go_wp2_with fail
   go_call (len_any A 0 c _) as r W2 ⟨rfl, rfl⟩
   go_wp2_with fail
   go_ret
   have hp := HP.out.1
   rw [List.append_nil] at hp
   exact ⟨B, d, out, rfl, HP.out.2.1, hp, M⟩
  ·have hpos : 0 < qs.length := List.length_pos_iff.2 h0
   have hpi : (0 : Int) < (qs.length : Int) := by omega
   clear h0
   go_wp2_with fail
   go_call (len_any A qs.length c _) as r W2 ⟨rfl, rfl⟩
   go_wp2_with fail
   have hN := next_any qs lb A c hpos hql wr HP.out.2.2.2 (LineIn.of (rs := [rK out.length B d (out.map P3.i)]) (M.perm (List.perm_append_comm (l₁ := [_]) (l₂ := lineL lb A c qs))))
   obtain ⟨y, hy⟩ : ∃ y, y = at3 qs 0 := ⟨_, rfl⟩
   obtain ⟨yi, hyi⟩ : ∃ yi, yi = y.i := ⟨_, rfl⟩
   rw [← hy, ← hyi] at hN
   have HY := hide (⟨hy, hyi⟩ : _ ∧ _)
   clear hy hyi qL tL
   apply Calls.mono
   focus with_reducible exact hN
   clear hN
   rintro r W3 ⟨rfl, q2, hp2, hh2, M2⟩
   replace M := Sep.comp (ps := lineL lb A c qs) (rs := [rK out.length B d (out.map P3.i)]) (M.perm (List.perm_append_comm (l₁ := [_]) (l₂ := lineL lb A c qs))) M2
   replace M := M.perm (List.perm_append_comm (l₁ := lineL lb A c q2) (l₂ := [_]))
   clear M2
   have HQ := hide (⟨hp2, hh2⟩ : _ ∧ _)
   clear hp2 hh2 hpos hpi
   go_wp2_with (at_builtin; refine wpList_append_sep rfl (.tmp 14) (.tmp 17) 27 rfl 2 i0 (.int .i64 0) 1 8 Tryz.underlying27 hi hz0 hz1 hz2 rfl (by decide) B out.length d (icells (out.map P3.i)) rfl ((M.allocN 2 #[.int .i64 yi]).rowAt 1 rfl) ⟨W3.heap.size, 0, none⟩ 1 1 (icells [yi]) rfl rfl (rowOne W3 yi 2) (by simp [icells]) (icells_oneL _) (by unfold maxLen; omega) (by omega) ?_; intro B' d' W4 k)
   have hyq : y ∈ qs := HQ.out.1.subset (by simp)
   refine ⟨⟨out ++ [y], q2, B', d', by simp, hide ⟨?_, ?_, ?_, HQ.out.2⟩, ?_⟩, ?_⟩
   ·rw [List.append_assoc]
    exact (List.Perm.append_left out HQ.out.1).trans HP.out.1
   ·exact List.pairwise_append.2 ⟨HP.out.2.1, by simp, fun a ha b hb => by simp at hb; subst hb; exact HP.out.2.2.1 a ha _ hyq⟩
   ·intro a ha z hz
    have hzq : z ∈ qs := HQ.out.1.subset (List.mem_cons_of_mem _ hz)
    rcases List.mem_append.1 ha with ha | ha
    ·exact HP.out.2.2.1 a ha z hzq
    ·simp at ha
     subst ha
     have := HP.out.2.2.2.first z hzq
     rw [← HY.out.1] at this
     exact this
   ·have k' : Sep (fps [rK out.length B d (out.map P3.i)]) (W3.alloc (.cells #[.int .i64 yi] 2)) W4 [rK (out ++ [y]).length B' d' ((out ++ [y]).map P3.i)] := by
     rw [List.length_append, List.length_singleton, List.map_append, List.map_cons, List.map_nil, ← HY.out.2]
     unfold rK
     rw [← icells_app]
     exact k
    exact Sep.comp (ps := [rK out.length B d (out.map P3.i)]) (rs := lineL lb A c q2) (M.allocN 2 #[.int .i64 yi]).tail k'
   ·have h5 := HL.out
    have h6 := List.length_pos_of_mem hyq
    show ps.length - (out.length + 1) < ps.length - out.length
    omega
set_option maxRecDepth 100000
set_option maxHeartbeats 2000000 in
theorem gReadyLine_any (ts : List T7) (ks : List Int) (fs : List F2) (A0 A1 A2 : Option Addr) (c0 c1 c2 : Nat) (tn : Int) (st : Bool) (w : World) (hlen : ts.length ≤ 1048576) (h : Row w A0 (tcells ts)) :
 Calls Tryz.prog 17 #[.agg #[.slice A0 ts.length c0, .slice A1 ks.length c1, .slice A2 fs.length c2, .int .i64 tn, .bool st]] w fun r w' => ∃ (B : Option Addr) (d : Nat), r = .returned (.slice B (readyM ts).length d) ∧ Sep [] w w' [rK (readyM ts).length B d (readyM ts)] := by
 have H := hide h
 clear h
 go_enter Tryz.func17, Tryz.ntmps17
 go_wp2_with fail
 generalize hW : w.alloc _ = W1
 have M := Sep.e1 hW
 clear hW
 obtain ⟨tP, Ae, Ac, Ad, Ab, Aa⟩ := M.q5 0 rfl
 go_wp2_with fail
 go_call (readyLine_p ts w.heap.size A0 c0 _ hlen (M.cell 0 0 rfl) (H.out.below M.below)) as r W2 ⟨lb, A, c, ps, rfl, hle, hh, hp, g1⟩
 clear tP Ae Ac Ad Ab Aa
 replace M : Sep [] w W2 (lineL lb A c ps ++ [.blk (w.heap.size) 30 #[.slice A0 ts.length c0, .slice A1 ks.length c1, .slice A2 fs.length c2, .int .i64 tn, .bool st]]) := Sep.new M g1
 clear g1
 have HP := hide (⟨hh, hp⟩ : _ ∧ _)
 clear hh hp
 go_wp2_with fail
 go_call (leave_any ps lb A c (by omega) _ HP.out.1 (LineIn.of M)) as r W3 ⟨B, d, out, rfl, hs, hq, g1⟩
 replace M := Sep.comp (ps := lineL lb A c ps) M g1
 clear g1
 have hE : out.map P3.i = readyM ts := ready_eq hs (hq.trans HP.out.2)
 have hL : out.length = (readyM ts).length := by rw [← hE]; simp
 rw [hE, hL] at M
 rw [hL]
 clear hE hL hs hq HP
 go_wp2_with fail
 go_ret
 exact ⟨B, d, rfl, M.take 1⟩
set_option maxHeartbeats 2000000 in
theorem gFirstReady_any (ts : List T7) (ks : List Int) (fs : List F2) (A0 A1 A2 : Option Addr) (c0 c1 c2 : Nat) (tn : Int) (st : Bool) (w : World) (hlen : ts.length ≤ 1048576) (h : Row w A0 (tcells ts)) :
 Calls Tryz.prog 27 #[.agg #[.slice A0 ts.length c0, .slice A1 ks.length c1, .slice A2 fs.length c2, .int .i64 tn, .bool st]] w fun r w' => r = .returned (.int .i64 (firstM ts)) ∧ Below w.heap.size w w' := by
 have H := hide h
 clear h
 go_enter Tryz.func27, Tryz.ntmps27
 go_wp2_with fail
 generalize hW : w.alloc _ = W1
 have M := Sep.e1 hW
 clear hW
 obtain ⟨tP, Ae, Ac, Ad, Ab, Aa⟩ := M.q5 0 rfl
 go_wp2_with fail
 go_call (readyLine_p ts w.heap.size A0 c0 _ hlen (M.cell 0 0 rfl) (H.out.below M.below)) as r W2 ⟨lb, A, c, ps, rfl, hle, hh, hp, g1⟩
 clear tP Ae Ac Ad Ab Aa
 replace M : Sep [] w W2 (lineL lb A c ps ++ [.blk (w.heap.size) 30 #[.slice A0 ts.length c0, .slice A1 ks.length c1, .slice A2 fs.length c2, .int .i64 tn, .bool st]]) := Sep.new M g1
 clear g1
 have HP := hide (⟨hh, hp⟩ : _ ∧ _)
 clear hh hp
 have qL : W2.cell? ⟨lb, 0, none⟩ = some (.slice A ps.length c) := M.cell 0 0 rfl
 go_wp2_with fail
 go_call (first_any ps A c (by omega) _ (M.rowS 1 rfl)) as r W9 ⟨rfl, rfl⟩
 clear qL
 rw [ready_line HP.out.1 HP.out.2, show (readyM ts).headD (-1) = firstM ts from rfl]
 clear HP
 go_wp2_with fail
 go_ret
 exact ⟨rfl, M.below⟩
theorem Row.cells7' {W : World} {ts : List T7} {A : Option Addr} {k : Nat} {s l o wt on v t : Int} (h : Row W A (tcells ts)) (hx : ts[k]? = some ⟨s, l, o, wt, on, v, t⟩) :
 ∃ (b off : Nat), A = some ⟨b, off, none⟩ ∧ W.cell? ⟨b, off + k * 7, none⟩ = some (.int .i64 s) ∧ W.cell? ⟨b, off + k * 7 + 1, none⟩ = some (.int .i64 l) ∧ W.cell? ⟨b, off + k * 7 + 2, none⟩ = some (.int .i64 o) ∧ W.cell? ⟨b, off + k * 7 + 3, none⟩ = some (.int .i64 wt) ∧
  W.cell? ⟨b, off + k * 7 + 4, none⟩ = some (.int .i64 on) ∧ W.cell? ⟨b, off + k * 7 + 5, none⟩ = some (.int .i64 v) ∧ W.cell? ⟨b, off + k * 7 + 6, none⟩ = some (.int .i64 t) := by
 obtain ⟨b, off, s', l', o', wt', on', v', t', e, _⟩ := h.ts_at (List.getElem?_eq_some_iff.1 hx).1
 subst e
 exact ⟨b, off, rfl, Row.cells7 h hx⟩
end Go.Proofs.YtfjgelegojbmgaaGreat
