import Derived.Test.YtfkdfkoigojciaaGreatDoorQU38
import Derived.Test.YtfkdfkoigojciaaGreatDoorQU20
import Derived.Test.YtfkdfkoigojciaaGreatDoorQU12
import Derived.Shelf.Abstract
import Derived.Test.YtfkdfkoigojciaaGreatDoorQU23
import Derived.Test.YtfkdfkoigojciaaGreatDoorQU24
import Derived.Test.YtfkdfkoigojciaaGreatDoorQU29
import Derived.Test.YtfkdfkoigojciaaGreatDoorQU30
import Derived.Test.YtfkdfkoigojciaaGreatDoorQU10
import Derived.Test.YtfkdfkoigojciaaGreatDoorQU01

namespace Go.Proofs.YtfkdfkoigojciaaGreatDoor
open Go.RowKit
set_option linter.unusedVariables false
def RightO (a b c d e : Int) (o : OutP) : Prop := poolB a b c d e o.ts o.ks o.fs o.tn = true
theorem RightO.ite {a b c d e : Int} {p : Prop} [Decidable p] {x y : OutP} (hx : RightO a b c d e x) (hy : RightO a b c d e y) : RightO a b c d e (if p then x else y) := by
 split
 ·exact hx
 ·exact hy
section
variable {a b c d e : Int} {ts : List T7} {ks : List Int} {fs : List F2} {tn : Int} {st : Bool}
theorem spawn_right (wk lv : Int) (h : poolB a b c d e ts ks fs tn = true) : RightO a b c d e (spawnM a b c d e ts ks fs tn st wk lv) := by
 unfold spawnM
 repeat' (with_reducible refine RightO.ite ?_ ?_)
 all_goals (try split)
 all_goals first | exact noO_right h | exact doneO_right h | exact h
theorem take_right (wk : Int) (h : poolB a b c d e ts ks fs tn = true) : RightO a b c d e (takeM a b c d e ts ks fs tn st wk) := by
 unfold takeM
 repeat' (with_reducible refine RightO.ite ?_ ?_)
 all_goals (try split)
 all_goals first | exact noO_right h | exact doneO_right h | exact h
theorem yield_right (wk : Int) (h : poolB a b c d e ts ks fs tn = true) : RightO a b c d e (yieldM a b c d e ts ks fs tn st wk) := by
 unfold yieldM
 repeat' (with_reducible refine RightO.ite ?_ ?_)
 all_goals (try split)
 all_goals first | exact noO_right h | exact doneO_right h | exact h
theorem end__right (wk vv : Int) (h : poolB a b c d e ts ks fs tn = true) : RightO a b c d e (end_M a b c d e ts ks fs tn st wk vv) := by
 unfold end_M
 repeat' (with_reducible refine RightO.ite ?_ ?_)
 all_goals (try split)
 all_goals first | exact noO_right h | exact doneO_right h | exact h
theorem join_right (wk id : Int) (h : poolB a b c d e ts ks fs tn = true) : RightO a b c d e (joinM a b c d e ts ks fs tn st wk id) := by
 unfold joinM
 repeat' (with_reducible refine RightO.ite ?_ ?_)
 all_goals (try split)
 all_goals first | exact noO_right h | exact doneO_right h | exact h
theorem cancel_right (wk id : Int) (h : poolB a b c d e ts ks fs tn = true) : RightO a b c d e (cancelM a b c d e ts ks fs tn st wk id) := by
 unfold cancelM
 repeat' (with_reducible refine RightO.ite ?_ ?_)
 all_goals (try split)
 all_goals first | exact noO_right h | exact doneO_right h | exact h
theorem level_right (wk id lv : Int) (h : poolB a b c d e ts ks fs tn = true) : RightO a b c d e (levelM a b c d e ts ks fs tn st wk id lv) := by
 unfold levelM
 repeat' (with_reducible refine RightO.ite ?_ ?_)
 all_goals (try split)
 all_goals first | exact noO_right h | exact doneO_right h | exact h
theorem up_right (wk id : Int) (h : poolB a b c d e ts ks fs tn = true) : RightO a b c d e (upM a b c d e ts ks fs tn st wk id) := by
 unfold upM
 repeat' (with_reducible refine RightO.ite ?_ ?_)
 all_goals (try split)
 all_goals first | exact noO_right h | exact doneO_right h | exact h
theorem down_right (wk id : Int) (h : poolB a b c d e ts ks fs tn = true) : RightO a b c d e (downM a b c d e ts ks fs tn st wk id) := by
 unfold downM
 repeat' (with_reducible refine RightO.ite ?_ ?_)
 all_goals (try split)
 all_goals first | exact noO_right h | exact doneO_right h | exact h
theorem set_right (wk id vv : Int) (h : poolB a b c d e ts ks fs tn = true) : RightO a b c d e (setM a b c d e ts ks fs tn st wk id vv) := by
 unfold setM
 repeat' (with_reducible refine RightO.ite ?_ ?_)
 all_goals (try split)
 all_goals first | exact noO_right h | exact doneO_right h | exact h
theorem got_right (wk id : Int) (h : poolB a b c d e ts ks fs tn = true) : RightO a b c d e (gotM a b c d e ts ks fs tn st wk id) := by
 unfold gotM
 repeat' (with_reducible refine RightO.ite ?_ ?_)
 all_goals (try split)
 all_goals first | exact noO_right h | exact doneO_right h | exact h
theorem stop_right (wk : Int) (h : poolB a b c d e ts ks fs tn = true) : RightO a b c d e (stopM a b c d e ts ks fs tn st wk) := by
 unfold stopM
 repeat' (with_reducible refine RightO.ite ?_ ?_)
 all_goals (try split)
 all_goals first | exact noO_right h | exact doneO_right h | exact h
theorem applied_right (wk k x y : Int) (h : poolB a b c d e ts ks fs tn = true) : RightO a b c d e (appliedM a b c d e ts ks fs tn st wk k x y) := by
 unfold appliedM applyM
 repeat' (with_reducible refine RightO.ite ?_ ?_)
 all_goals first | (with_reducible exact spawn_right _ _ h) | (with_reducible exact take_right _ h) | (with_reducible exact yield_right _ h) | (with_reducible exact end__right _ _ h) | (with_reducible exact join_right _ _ h) | (with_reducible exact cancel_right _ _ h) | (with_reducible exact level_right _ _ _ h) | (with_reducible exact up_right _ _ h) | (with_reducible exact down_right _ _ h) | (with_reducible exact set_right _ _ _ h) | (with_reducible exact got_right _ _ h) | (with_reducible exact stop_right _ h) | exact noO_right h
theorem poolB_lens (h : poolB a b c d e ts ks fs tn = true) : ts.length ≤ 30 ∧ ks.length ≤ 4 ∧ fs.length ≤ 4 := by
 simp only [poolB, Bool.and_eq_true, decide_eq_true_eq] at h
 have h1 := h.1
 have h2 := h.2.2.1.1
 have h3 := h.2.2.2.1.2
 have h4 := h.2.2.2.2.2
 clear h
 simp [planB, btw] at h1
 omega
theorem newPool_right {d e : Nat} (h : planB a b c d e = true) : poolB a b c d e [] (List.replicate d 0) (List.replicate e ⟨false, 0⟩) 1 = true := by
 have h1 := h
 simp [planB, btw] at h1
 have e1 : (List.replicate d (0 : Int)).all tokB = true := List.all_eq_true.2 fun x hx => by rw [List.eq_of_mem_replicate hx]; rfl
 have e2 : (List.replicate e (⟨false, 0⟩ : F2)).all futB = true := List.all_eq_true.2 fun x hx => by rw [List.eq_of_mem_replicate hx]; rfl
 rw [poolB, h, e1, e2]
 simp [tasksB, allFrom, btw]
 omega
end
def sliceLen : Value → Nat
 | .slice _ n _ => n
 | _ => 0
set_option maxRecDepth 100000 in
set_option maxHeartbeats 1000000 in
theorem leave_any (ps : List P3) (lb : Nat) (A : Option Addr) (c : Nat) (hl : ps.length ≤ 1048576) (w : World) (hh : HeapL ps) (h : LineIn w lb A c ps) :
 Calls Tryz.prog 82 #[.pointer (some ⟨lb, 0, none⟩)] w fun r w' => ∃ (B : Option Addr) (d : Nat) (out : List P3), r = .returned (.slice B out.length d) ∧ out.Pairwise leP ∧ out.Perm ps ∧ Sep (fps (lineL lb A c ps)) w w' (rK out.length B d (out.map P3.i) :: lineL lb A c []) := by
 obtain ⟨i0, hi, hz0, hz1, hz2⟩ := info_parts infoInt
 have qL : w.cell? ⟨lb, 0, none⟩ = some (.slice A ps.length c) := Sep.cell h 0 0 rfl
 have H := hide (⟨h, hh⟩ : _ ∧ _)
 clear h hh
 go_enter Tryz.func82, Tryz.ntmps82
 go_wp2_with fail
 go_call (len_any A ps.length c _) as r W2 ⟨rfl, rfl⟩
 go_wp2_with fail
 obtain ⟨W1, hr, ho, hg⟩ := run_make_own (P := Tryz.prog) w w.heap.size 32 2 i0 (.int .i64 0) 1 Tryz.underlying32 hi hz0 hz1 .i64 .i64 ps.length (by rw [hz2]; omega) (by unfold maxLen; omega) (Nat.le_refl _)
 rw [hr]
 have M : Sep (fps (lineL lb A c ps)) w W1 (rK 0 (some ⟨w.heap.size, 0, none⟩) ps.length [] :: lineL lb A c ps) := Sep.comp (ps := []) (rs := lineL lb A c ps) H.out.1 (sepRow ⟨hg.os, hg.tape, hg.output, hg.size, fun b hb => hg.block b hb (by simp)⟩ ho)
 clear hr ho hg qL
 go_wp2_with fail
 go_loopw [3] (fun i wr => ∃ (out qs : List P3) (B : Option Addr) (d : Nat), i = .slice B out.length d ∧ Hid ((out ++ qs).Perm ps ∧ out.Pairwise leP ∧ (∀ x ∈ out, ∀ y ∈ qs, leP x y) ∧ HeapL qs) ∧ Sep (fps (lineL lb A c ps)) w wr (rK out.length B d (out.map P3.i) :: lineL lb A c qs)) (fun i _ => (ps.length - sliceLen i : Nat))
 case atStart => exact ⟨[], ps, _, _, rfl, hide ⟨List.Perm.refl _, List.Pairwise.nil, by simp, H.out.2⟩, M⟩
 case round =>
  clear M H
  obtain ⟨out, qs, B, d, rfl, HP, M⟩ := hrel
  have hlen : out.length + qs.length = ps.length := by have := HP.out.1.length_eq; simpa using this
  have hql : qs.length ≤ 1048576 := by omega
  have hol : out.length ≤ 1048576 := by omega
  have HL := hide hlen
  clear hlen
  have qL : wr.cell? ⟨lb, 0, none⟩ = some (.slice A qs.length c) := M.cell 1 0 rfl
  have tL : lb < wr.heap.size := M.lt 1 rfl
  by_cases h0 : qs = []
  ·subst h0
   have qL2 : wr.cell? ⟨lb, 0, none⟩ = some (.slice A 0 c) := qL
   clear qL
   go_wp2_with fail
   go_call (len_any A 0 c _) as r W2 ⟨rfl, rfl⟩
   go_wp2_with fail
   go_ret
   have hp := HP.out.1
   rw [List.append_nil] at hp
   exact ⟨B, d, out, rfl, HP.out.2.1, hp, M⟩
  ·have hpos : 0 < qs.length := List.length_pos_iff.2 h0
   have hpi : (0 : Int) < (qs.length : Int) := by omega
   clear h0
   go_wp2_with fail
   go_call (len_any A qs.length c _) as r W2 ⟨rfl, rfl⟩
   go_wp2_with fail
   have hN := next_any qs lb A c hpos hql wr HP.out.2.2.2 (LineIn.of (rs := [rK out.length B d (out.map P3.i)]) (M.perm (List.perm_append_comm (l₁ := [_]) (l₂ := lineL lb A c qs))))
   obtain ⟨y, hy⟩ : ∃ y, y = at3 qs 0 := ⟨_, rfl⟩
   obtain ⟨yi, hyi⟩ : ∃ yi, yi = y.i := ⟨_, rfl⟩
   rw [← hy, ← hyi] at hN
   have HY := hide (⟨hy, hyi⟩ : _ ∧ _)
   clear hy hyi qL tL
   apply Calls.mono
   focus with_reducible exact hN
   clear hN
   rintro r W3 ⟨rfl, q2, hp2, hh2, M2⟩
   replace M := Sep.comp (ps := lineL lb A c qs) (rs := [rK out.length B d (out.map P3.i)]) (M.perm (List.perm_append_comm (l₁ := [_]) (l₂ := lineL lb A c qs))) M2
   replace M := M.perm (List.perm_append_comm (l₁ := lineL lb A c q2) (l₂ := [_]))
   clear M2
   have HQ := hide (⟨hp2, hh2⟩ : _ ∧ _)
   clear hp2 hh2 hpos hpi
   go_wp2_with (at_builtin; refine wpList_append_sep rfl (.tmp 14) (.tmp 17) 32 rfl 2 i0 (.int .i64 0) 1 8 Tryz.underlying32 hi hz0 hz1 hz2 rfl (by decide) B out.length d (icells (out.map P3.i)) rfl ((M.allocN 2 #[.int .i64 yi]).rowAt 1 rfl) ⟨W3.heap.size, 0, none⟩ 1 1 (icells [yi]) rfl rfl (rowOne W3 yi 2) (by simp [icells]) (icells_oneL _) (by unfold maxLen; omega) (by omega) ?_; intro B' d' W4 k)
   have hyq : y ∈ qs := HQ.out.1.subset (by simp)
   refine ⟨⟨out ++ [y], q2, B', d', by simp, hide ⟨?_, ?_, ?_, HQ.out.2⟩, ?_⟩, ?_⟩
   ·rw [List.append_assoc]
    exact (List.Perm.append_left out HQ.out.1).trans HP.out.1
   ·exact List.pairwise_append.2 ⟨HP.out.2.1, by simp, fun a ha b hb => by simp at hb; subst hb; exact HP.out.2.2.1 a ha _ hyq⟩
   ·intro a ha z hz
    have hzq : z ∈ qs := HQ.out.1.subset (List.mem_cons_of_mem _ hz)
    rcases List.mem_append.1 ha with ha | ha
    ·exact HP.out.2.2.1 a ha z hzq
    ·simp at ha
     subst ha
     have := HP.out.2.2.2.first z hzq
     rw [← HY.out.1] at this
     exact this
   ·have k' : Sep (fps [rK out.length B d (out.map P3.i)]) (W3.alloc (.cells #[.int .i64 yi] 2)) W4 [rK (out ++ [y]).length B' d' ((out ++ [y]).map P3.i)] := by
     rw [List.length_append, List.length_singleton, List.map_append, List.map_cons, List.map_nil, ← HY.out.2]
     unfold rK
     rw [← icells_app]
     exact k
    exact Sep.comp (ps := [rK out.length B d (out.map P3.i)]) (rs := lineL lb A c q2) (M.allocN 2 #[.int .i64 yi]).tail k'
   ·have h5 := HL.out
    have h6 := List.length_pos_of_mem hyq
    show ps.length - (out.length + 1) < ps.length - out.length
    omega
set_option maxRecDepth 100000 in
set_option maxHeartbeats 2000000 in
theorem gWaitersOn_any (ts : List T7) (ks : List Int) (fs : List F2) (A0 A1 A2 : Option Addr) (c0 c1 c2 : Nat) (tn : Int) (st : Bool) (wk on2 : Int) (w : World) (hlen : ts.length ≤ 1048576) (h : Row w A0 (tcells ts)) :
 Calls Tryz.prog 37 #[.agg #[.slice A0 ts.length c0, .slice A1 ks.length c1, .slice A2 fs.length c2, .int .i64 tn, .bool st], .int .i64 wk, .int .i64 on2] w fun r w' => ∃ (B : Option Addr) (d : Nat), r = .returned (.slice B (waitersM ts wk on2).length d) ∧ Sep [] w w' [rK (waitersM ts wk on2).length B d (waitersM ts wk on2)] := by
 have H := hide h
 clear h
 go_enter Tryz.func37, Tryz.ntmps37
 go_wp2_with fail
 generalize hW : w.alloc _ = W1
 have M := Sep.e1 hW
 clear hW
 obtain ⟨tP, Ab, Ac, Ad, Ae, Aa⟩ := M.q5 0 rfl
 go_wp2_with fail
 go_call (waitersOn_p ts w.heap.size A0 c0 wk on2 _ hlen (M.cell 0 0 rfl) (H.out.below M.below)) as r W2 ⟨lb, A, c, ps, rfl, hle, hh, hp, g1⟩
 clear tP Ab Ac Ad Ae Aa
 replace M : Sep [] w W2 (lineL lb A c ps ++ [.blk (w.heap.size) 35 #[.slice A0 ts.length c0, .slice A1 ks.length c1, .slice A2 fs.length c2, .int .i64 tn, .bool st]]) := Sep.new M g1
 clear g1
 have HP := hide (⟨hh, hp⟩ : _ ∧ _)
 clear hh hp
 go_wp2_with fail
 go_call (leave_any ps lb A c (by omega) _ HP.out.1 (LineIn.of M)) as r W3 ⟨B, d, out, rfl, hs, hq, g1⟩
 replace M := Sep.comp (ps := lineL lb A c ps) M g1
 clear g1
 have hE : out.map P3.i = waitersM ts wk on2 := wait_eq hs (hq.trans HP.out.2)
 have hL : out.length = (waitersM ts wk on2).length := by rw [← hE]; simp
 rw [hE, hL] at M
 rw [hL]
 clear hE hL hs hq HP
 go_wp2_with fail
 go_ret
 exact ⟨B, d, rfl, M.take 1⟩
theorem spawned_tok (a b c d e : Int) (ts : List T7) (ks : List Int) (fs : List F2) (tn : Int) (st : Bool) (wk : Int) (lv : Int) (hl : ts.length + ks.length + fs.length ≤ 1048576) :
 ∃ (us : List T7) (ks2 : List Int) (fs2 : List F2) (tn2 : Int) (st2 : Bool) (rp ou : Int), us.length + ks2.length + fs2.length ≤ 1048576 ∧
 (poolB a b c d e ts ks fs tn = true → poolB a b c d e us ks2 fs2 tn2 = true ∧ ks2 = ks ∧ (us = ts ∨ ∃ x : T7, x.s = 1 ∧ us = ts ++ [x])) ∧
 Hid (∀ (A0 A1 A2 : Option Addr) (c0 c1 c2 : Nat) (w : World), InPool w ts ks fs A0 A1 A2 → Calls Tryz.prog 33 #[.agg #[.int .i64 a, .int .i64 b, .int .i64 c, .int .i64 d, .int .i64 e], .agg #[.slice A0 ts.length c0, .slice A1 ks.length c1, .slice A2 fs.length c2, .int .i64 tn, .bool st], .int .i64 wk, .int .i64 lv] w (GaveA us ks2 fs2 tn2 st2 rp ou w)) := by
 have ht : ts.length ≤ 1048576 := by omega
 have hk : ks.length ≤ 1048576 := by omega
 have hf : fs.length ≤ 1048576 := by omega
 cases hp : poolB a b c d e ts ks fs tn
 ·exact ⟨[], [], [], 0, false, 8, 0, by simp, (fun h => by cases h), hide (fun A0 A1 A2 c0 c1 c2 w h => gSpawned_face a b c d e ts ks fs A0 A1 A2 c0 c1 c2 tn st wk lv w ht hk hf h ⟨[], [], [], 0, false, 8, 0⟩ (fun V bP blv hV hP lP hlv llv => lived_bad a b c d e ts ks fs A0 A1 A2 c0 c1 c2 tn st wk 86 #[.pointer (some ⟨bP, 0, none⟩), .pointer (some ⟨blv, 0, none⟩)] (Go.Proofs.enters_of Tryz.func86 (by kernel_rfl) rfl) V ht hk hf (h.below hV) hp))⟩
 have hpl := (poolB_parts hp).1
 have hT := (poolB_parts hp).2.1
 cases hw : btw wk 0 (a - 1)
 ·exact ⟨ts, ks, fs, tn, st, 8, 0, hl, (fun _ => ⟨hp, rfl, .inl rfl⟩), hide (fun A0 A1 A2 c0 c1 c2 w h => gSpawned_face a b c d e ts ks fs A0 A1 A2 c0 c1 c2 tn st wk lv w ht hk hf h ⟨ts, ks, fs, tn, st, 8, 0⟩ (fun V bP blv hV hP lP hlv llv => lived_worker a b c d e ts ks fs A0 A1 A2 c0 c1 c2 tn st wk 86 #[.pointer (some ⟨bP, 0, none⟩), .pointer (some ⟨blv, 0, none⟩)] (Go.Proofs.enters_of Tryz.func86 (by kernel_rfl) rfl) V ht hk hf (h.below hV) hp hw))⟩
 have hm : mayB a b c d e ts ks fs tn wk = true := by simp [mayB, workB, hp, hw, hpl]
 obtain ⟨pl1, pl2⟩ : 1 ≤ c ∧ c ≤ 30 := by have := planB_c hpl; omega
 cases hq9 : btw lv 0 (c - 1)
 ·exact ⟨ts, ks, fs, tn, st, 8, 0, hl, (fun _ => ⟨hp, rfl, .inl rfl⟩), hide (fun A0 A1 A2 c0 c1 c2 w h => gSpawned_face a b c d e ts ks fs A0 A1 A2 c0 c1 c2 tn st wk lv w ht hk hf h ⟨ts, ks, fs, tn, st, 8, 0⟩ (fun V bP blv hV hP lP hlv llv => lived_no a b c d e ts ks fs A0 A1 A2 c0 c1 c2 tn st wk 86 #[.pointer (some ⟨bP, 0, none⟩), .pointer (some ⟨blv, 0, none⟩)] (Go.Proofs.enters_of Tryz.func86 (by kernel_rfl) rfl) V ht hk hf (h.below hV) hp hw 8 (fun V2 g C0 C1 C2 e0 e1 e2 hV2 hM => spawnedC_no ts ks fs C0 C1 C2 e0 e1 e2 tn st g a b c d e lv bP blv 8 V2 hM (fun j => (hV2.cell (p := ⟨bP, j, none⟩) lP).trans (hP j)) (Nat.lt_of_lt_of_le lP hV2.size) ((hV2.cell (p := ⟨blv, 0, none⟩) llv).trans hlv) (Nat.lt_of_lt_of_le llv hV2.size) (fun V3 hM3 => spawn_level ts ks fs C0 C1 C2 e0 e1 e2 tn st g a b c d e lv V3 ht hk hf hM3 pl1 pl2 hq9))))⟩
 have hlb : levelB a b c d e lv = true := by simp [levelB, hq9, hpl]
 have hlen : ts.length + ks.length + fs.length + 1 ≤ 1048576 ∨ b ≤ (ts.length : Int) := by
  have h1 := planB_all hpl
  have h2 := hp
  simp only [poolB, Bool.and_eq_true, decide_eq_true_eq] at h2
  omega
 cases st
 ·by_cases hb : b ≤ (ts.length : Int)
  ·exact ⟨ts, ks, fs, tn, false, 4, 0, hl, (fun _ => ⟨hp, rfl, .inl rfl⟩), hide (fun A0 A1 A2 c0 c1 c2 w h => gSpawned_face a b c d e ts ks fs A0 A1 A2 c0 c1 c2 tn false wk lv w ht hk hf h ⟨ts, ks, fs, tn, false, 4, 0⟩ (fun V bP blv hV hP lP hlv llv => lived_no a b c d e ts ks fs A0 A1 A2 c0 c1 c2 tn false wk 86 #[.pointer (some ⟨bP, 0, none⟩), .pointer (some ⟨blv, 0, none⟩)] (Go.Proofs.enters_of Tryz.func86 (by kernel_rfl) rfl) V ht hk hf (h.below hV) hp hw 4 (fun V2 g C0 C1 C2 e0 e1 e2 hV2 hM => spawnedC_no ts ks fs C0 C1 C2 e0 e1 e2 tn false g a b c d e lv bP blv 4 V2 hM (fun j => (hV2.cell (p := ⟨bP, j, none⟩) lP).trans (hP j)) (Nat.lt_of_lt_of_le lP hV2.size) ((hV2.cell (p := ⟨blv, 0, none⟩) llv).trans hlv) (Nat.lt_of_lt_of_le llv hV2.size) (fun V3 hM3 => spawn_full ts ks fs C0 C1 C2 e0 e1 e2 tn g a b c d e lv V3 ht hk hf hM3 pl1 pl2 hq9 hb))))⟩
  by_cases t1 : tn < 1000000
  ·have hz := spawnP_right hp hq9 (show (ts.length : Int) < b by omega) t1
   exact ⟨(ts ++ [(⟨1, lv, -1, 0, 0, 0, tn⟩ : T7)]), ks, fs, tn + 1, false, 1, ts.length, by simp; omega, (fun _ => ⟨hz, rfl, .inr ⟨_, rfl, rfl⟩⟩), hide (fun A0 A1 A2 c0 c1 c2 w h => gSpawned_face a b c d e ts ks fs A0 A1 A2 c0 c1 c2 tn false wk lv w ht hk hf h ⟨(ts ++ [(⟨1, lv, -1, 0, 0, 0, tn⟩ : T7)]), ks, fs, tn + 1, false, 1, ts.length⟩ (fun V bP blv hV hP lP hlv llv => lived_yes a b c d e ts ks fs A0 A1 A2 c0 c1 c2 tn false wk 86 #[.pointer (some ⟨bP, 0, none⟩), .pointer (some ⟨blv, 0, none⟩)] (Go.Proofs.enters_of Tryz.func86 (by kernel_rfl) rfl) V ht hk hf (h.below hV) hp hw _ (fun V2 g C0 C1 C2 e0 e1 e2 hV2 hM => spawnedC_yes ts ks fs C0 C1 C2 e0 e1 e2 tn false g a b c d e lv bP blv _ V2 hM (fun j => (hV2.cell (p := ⟨bP, j, none⟩) lP).trans (hP j)) (Nat.lt_of_lt_of_le lP hV2.size) ((hV2.cell (p := ⟨blv, 0, none⟩) llv).trans hlv) (Nat.lt_of_lt_of_le llv hV2.size) (fun V3 hM3 => spawn_ok ts ks fs C0 C1 C2 e0 e1 e2 tn g a b c d e lv V3 ht hk hf hM3 pl1 pl2 hq9 hb hT.1 t1))))⟩
  ·have hz : poolB a b c d e (ts ++ [(⟨1, lv, -1, 0, 0, 0, tn⟩ : T7)]) ks fs (tn + 1) = false := turn_over (by omega)
   exact ⟨ts, ks, fs, tn, false, 4, 0, hl, (fun _ => ⟨hp, rfl, .inl rfl⟩), hide (fun A0 A1 A2 c0 c1 c2 w h => gSpawned_face a b c d e ts ks fs A0 A1 A2 c0 c1 c2 tn false wk lv w ht hk hf h ⟨ts, ks, fs, tn, false, 4, 0⟩ (fun V bP blv hV hP lP hlv llv => lived_no a b c d e ts ks fs A0 A1 A2 c0 c1 c2 tn false wk 86 #[.pointer (some ⟨bP, 0, none⟩), .pointer (some ⟨blv, 0, none⟩)] (Go.Proofs.enters_of Tryz.func86 (by kernel_rfl) rfl) V ht hk hf (h.below hV) hp hw 4 (fun V2 g C0 C1 C2 e0 e1 e2 hV2 hM => spawnedC_no ts ks fs C0 C1 C2 e0 e1 e2 tn false g a b c d e lv bP blv 4 V2 hM (fun j => (hV2.cell (p := ⟨bP, j, none⟩) lP).trans (hP j)) (Nat.lt_of_lt_of_le lP hV2.size) ((hV2.cell (p := ⟨blv, 0, none⟩) llv).trans hlv) (Nat.lt_of_lt_of_le llv hV2.size) (fun V3 hM3 => spawn_turn ts ks fs C0 C1 C2 e0 e1 e2 tn g a b c d e lv V3 ht hk hf hM3 pl1 pl2 hq9 hb t1))))⟩
 ·exact ⟨ts, ks, fs, tn, true, 6, 0, hl, (fun _ => ⟨hp, rfl, .inl rfl⟩), hide (fun A0 A1 A2 c0 c1 c2 w h => gSpawned_face a b c d e ts ks fs A0 A1 A2 c0 c1 c2 tn true wk lv w ht hk hf h ⟨ts, ks, fs, tn, true, 6, 0⟩ (fun V bP blv hV hP lP hlv llv => lived_no a b c d e ts ks fs A0 A1 A2 c0 c1 c2 tn true wk 86 #[.pointer (some ⟨bP, 0, none⟩), .pointer (some ⟨blv, 0, none⟩)] (Go.Proofs.enters_of Tryz.func86 (by kernel_rfl) rfl) V ht hk hf (h.below hV) hp hw 6 (fun V2 g C0 C1 C2 e0 e1 e2 hV2 hM => spawnedC_no ts ks fs C0 C1 C2 e0 e1 e2 tn true g a b c d e lv bP blv 6 V2 hM (fun j => (hV2.cell (p := ⟨bP, j, none⟩) lP).trans (hP j)) (Nat.lt_of_lt_of_le lP hV2.size) ((hV2.cell (p := ⟨blv, 0, none⟩) llv).trans hlv) (Nat.lt_of_lt_of_le llv hV2.size) (fun V3 hM3 => spawn_stop ts ks fs C0 C1 C2 e0 e1 e2 tn g a b c d e lv V3 ht hk hf hM3 pl1 pl2 hq9))))⟩
def NoW (ts : List T7) : Prop := ∀ (k : Nat) (x : T7), ts[k]? = some x → x.s = 3 → x.wt = 2 → x.on ≠ 0
theorem noW_of {ts : List T7} (h : waitersM ts 2 ((0 : Nat) : Int) = []) : NoW ts := fun k x hx h1 h2 h3 => by
 have h9 := mem_waiters (wt := 2) (on := ((0 : Nat) : Int)) hx h1 h2 (by rw [h3]; rfl)
 rw [h] at h9
 cases h9
theorem noW_none {ts : List T7} (h : NoW ts) : waitersM ts 2 0 = [] := List.eq_nil_iff_forall_not_mem.2 fun j hj => by
 obtain ⟨k, x, _, _, hx, h1, h2, h3⟩ := waitersM_mem hj
 exact h k x hx h1 h2 h3
theorem noW_set {ts : List T7} {k : Nat} {y : T7} (h : NoW ts) (hy : y.s ≠ 3) : NoW (ts.set k y) := fun j x hx h1 => by
 rw [List.getElem?_set] at hx
 split at hx
 ·split at hx
  ·injection hx with hx
   subst hx
   exact absurd h1 hy
  ·cases hx
 ·exact h j x hx h1
theorem noW_snoc {ts : List T7} {y : T7} (h : NoW ts) (hy : y.s ≠ 3) : NoW (ts ++ [y]) := fun j x hx h1 => by
 rw [List.getElem?_append] at hx
 split at hx
 ·exact h j x hx h1
 ·have h2 := List.mem_of_getElem? hx
  simp only [List.mem_singleton] at h2
  subst h2
  exact absurd h1 hy
def TokI (a b c d e : Int) (ts : List T7) (ks : List Int) (fs : List F2) (tn gv tk : Int) : Prop :=
 poolB a b c d e ts ks fs tn = true ∧ ∃ k0, ks[0]? = some k0 ∧ k0 + tk = gv ∧ (0 < k0 → NoW ts)
theorem tok_new {a b c : Int} {d e : Nat} (h : planB a b c d e = true) (hd : 1 ≤ d) : TokI a b c d e [] (List.replicate d 0) (List.replicate e ⟨false, 0⟩) 1 0 0 :=
 ⟨newPool_right h, 0, by rw [List.getElem?_replicate, if_pos (by omega)], rfl, fun h0 => by omega⟩
theorem tok_lens {a b c d e : Int} {ts : List T7} {ks : List Int} {fs : List F2} {tn gv tk : Int} (h : TokI a b c d e ts ks fs tn gv tk) : ts.length ≤ 30 ∧ ks.length ≤ 4 ∧ fs.length ≤ 4 := poolB_lens h.1
theorem tok_spawn (a b c d e : Int) (ts : List T7) (ks : List Int) (fs : List F2) (tn : Int) (st : Bool) (wk lv gv tk : Int) (h : TokI a b c d e ts ks fs tn gv tk) :
 ∃ (us : List T7) (ks2 : List Int) (fs2 : List F2) (tn2 : Int) (st2 : Bool) (rp ou : Int), us.length + ks2.length + fs2.length ≤ 1048576 ∧ TokI a b c d e us ks2 fs2 tn2 gv tk ∧ Hid (∀ (A0 A1 A2 : Option Addr) (c0 c1 c2 : Nat) (w : World), InPool w ts ks fs A0 A1 A2 → Calls Tryz.prog 33 #[.agg #[.int .i64 a, .int .i64 b, .int .i64 c, .int .i64 d, .int .i64 e], .agg #[.slice A0 ts.length c0, .slice A1 ks.length c1, .slice A2 fs.length c2, .int .i64 tn, .bool st], .int .i64 wk, .int .i64 lv] w (GaveA us ks2 fs2 tn2 st2 rp ou w)) := by
 have hl := tok_lens h
 obtain ⟨us, ks2, fs2, tn2, st2, rp, ou, hle, hE, hI⟩ := spawned_tok a b c d e ts ks fs tn st wk lv (by omega)
 obtain ⟨hp, k0, hk0, hs, hn⟩ := h
 obtain ⟨hpu, rfl, hor⟩ := hE hp
 refine ⟨us, _, fs2, tn2, st2, rp, ou, hle, ⟨hpu, k0, hk0, hs, fun h0 => ?_⟩, hI⟩
 rcases hor with rfl | ⟨x, hx, rfl⟩
 ·exact hn h0
 ·exact noW_snoc (hn h0) (by omega)
theorem tok_take (a b c d e : Int) (ts : List T7) (ks : List Int) (fs : List F2) (tn : Int) (st : Bool) (wk gv tk : Int) (h : TokI a b c d e ts ks fs tn gv tk) :
 ∃ (us : List T7) (ks2 : List Int) (fs2 : List F2) (tn2 : Int) (st2 : Bool) (rp ou : Int), us.length + ks2.length + fs2.length ≤ 1048576 ∧ TokI a b c d e us ks2 fs2 tn2 gv tk ∧ Hid (∀ (A0 A1 A2 : Option Addr) (c0 c1 c2 : Nat) (w : World), InPool w ts ks fs A0 A1 A2 → Calls Tryz.prog 34 #[.agg #[.int .i64 a, .int .i64 b, .int .i64 c, .int .i64 d, .int .i64 e], .agg #[.slice A0 ts.length c0, .slice A1 ks.length c1, .slice A2 fs.length c2, .int .i64 tn, .bool st], .int .i64 wk] w (GaveA us ks2 fs2 tn2 st2 rp ou w)) := by
 have hl := tok_lens h
 obtain ⟨us, ks2, fs2, tn2, st2, rp, ou, hle, hE, _, hI⟩ := taken_told a b c d e ts ks fs tn st wk (by omega)
 refine ⟨us, ks2, fs2, tn2, st2, rp, ou, hle, ?_, hI⟩
 by_cases hr : rp = 1
 ·obtain ⟨k, x, _, _, _, _, hus, hk2, _, _, _, _, hpu⟩ := hE.1 hr
  obtain ⟨hp, k0, hk0, hs, hn⟩ := h
  exact ⟨hpu, k0, by rw [hk2]; exact hk0, hs, fun h0 => by rw [hus]; exact noW_set (hn h0) (by simp)⟩
 ·obtain ⟨rfl, rfl, rfl, rfl, _⟩ := hE.2 hr h.1
  exact h
theorem tok_up (a b c d e : Int) (ts : List T7) (ks : List Int) (fs : List F2) (tn : Int) (st : Bool) (wk gv tk : Int) (h : TokI a b c d e ts ks fs tn gv tk) :
 ∃ (us : List T7) (ks2 : List Int) (fs2 : List F2) (tn2 : Int) (st2 : Bool) (rp ou : Int), us.length + ks2.length + fs2.length ≤ 1048576 ∧ TokI a b c d e us ks2 fs2 tn2 (if rp = 1 then gv + 1 else gv) (if rp = 1 ∧ 0 < ou then tk + 1 else tk) ∧ Hid (∀ (A0 A1 A2 : Option Addr) (c0 c1 c2 : Nat) (w : World), Laid w → InPool w ts ks fs A0 A1 A2 → Calls Tryz.prog 35 #[.agg #[.int .i64 a, .int .i64 b, .int .i64 c, .int .i64 d, .int .i64 e], .agg #[.slice A0 ts.length c0, .slice A1 ks.length c1, .slice A2 fs.length c2, .int .i64 tn, .bool st], .int .i64 wk, .int .i64 0] w (GaveA us ks2 fs2 tn2 st2 rp ou w)) := by
 have hl := tok_lens h
 obtain ⟨us, ks2, fs2, tn2, st2, rp, ou, hle, hE, _, hI⟩ := upped_told a b c d e ts ks fs tn st wk 0 (by omega)
 refine ⟨us, ks2, fs2, tn2, st2, rp, ou, hle, ?_, hI⟩
 by_cases hr : rp = 1
 ·obtain ⟨_, hpu, _, _, k, kv, hk, hkv, hor⟩ := hE.1 hr
  obtain rfl : k = 0 := by omega
  obtain ⟨hp, k0, hk0, hs, hn⟩ := h
  rw [hk0] at hkv
  injection hkv with hkv
  subst hkv
  rcases hor with ⟨ho, hwm, hus, hks, _⟩ | ⟨j, jr, x, ho, hwm, hx, hus, hks, _⟩
  ·rw [if_pos hr, if_neg (by omega)]
   exact ⟨hpu, k0 + 1, by rw [hks]; exact List.getElem?_set_self (get_lt hk0), by omega, fun _ => by rw [hus]; exact noW_of hwm⟩
  ·rw [if_pos hr, if_pos ⟨hr, by omega⟩]
   exact ⟨hpu, k0, by rw [hks]; exact hk0, by omega, fun h0 => absurd hwm (by rw [show ((0 : Nat) : Int) = 0 from rfl, noW_none (hn h0)]; simp)⟩
 ·obtain ⟨rfl, rfl, rfl, rfl, _⟩ := hE.2 hr h.1
  rw [if_neg hr, if_neg (fun h => hr h.1)]
  exact h
theorem tok_down (a b c d e : Int) (ts : List T7) (ks : List Int) (fs : List F2) (tn : Int) (st : Bool) (wk gv tk : Int) (h : TokI a b c d e ts ks fs tn gv tk) :
 ∃ (us : List T7) (ks2 : List Int) (fs2 : List F2) (tn2 : Int) (st2 : Bool) (rp ou : Int), us.length + ks2.length + fs2.length ≤ 1048576 ∧ TokI a b c d e us ks2 fs2 tn2 gv (if rp = 1 then tk + 1 else tk) ∧ Hid (∀ (A0 A1 A2 : Option Addr) (c0 c1 c2 : Nat) (w : World), Laid w → InPool w ts ks fs A0 A1 A2 → Calls Tryz.prog 36 #[.agg #[.int .i64 a, .int .i64 b, .int .i64 c, .int .i64 d, .int .i64 e], .agg #[.slice A0 ts.length c0, .slice A1 ks.length c1, .slice A2 fs.length c2, .int .i64 tn, .bool st], .int .i64 wk, .int .i64 0] w (GaveA us ks2 fs2 tn2 st2 rp ou w)) := by
 have hl := tok_lens h
 obtain ⟨us, ks2, fs2, tn2, st2, rp, ou, hle, hE, _, hI⟩ := downed_told a b c d e ts ks fs tn st wk 0 (by omega)
 refine ⟨us, ks2, fs2, tn2, st2, rp, ou, hle, ?_, hI⟩
 by_cases hr : rp = 1
 ·obtain ⟨_, hpu, _, _, k, kv, hk, hkv, h0, hus, hks, _⟩ := hE.1 hr
  obtain rfl : k = 0 := by omega
  obtain ⟨hp, k0, hk0, hs, hn⟩ := h
  rw [hk0] at hkv
  injection hkv with hkv
  subst hkv
  rw [if_pos hr]
  exact ⟨hpu, k0 - 1, by rw [hks]; exact List.getElem?_set_self (get_lt hk0), by omega, fun _ => by rw [hus]; exact hn h0⟩
 ·rw [if_neg hr]
  by_cases hr7 : rp = 7
  ·obtain ⟨_, hpu, _, _, k, m, x, hk, hkv, _, _, hus, hks, _⟩ := hE.2.1 hr7
   obtain rfl : k = 0 := by omega
   obtain ⟨hp, k0, hk0, hs, hn⟩ := h
   rw [hk0] at hkv
   injection hkv with hkv
   subst hkv
   exact ⟨hpu, 0, by rw [hks]; exact hk0, hs, fun h0 => by omega⟩
  ·obtain ⟨rfl, rfl, rfl, rfl, _⟩ := hE.2.2 hr hr7 h.1
   exact h
theorem gNewPool_t (a b c : Int) (d e : Nat) (w : World) (hp : planB a b c d e = true) (hd : 1 ≤ d) : Calls Tryz.prog 32 #[.agg #[.int .i64 a, .int .i64 b, .int .i64 c, .int .i64 d, .int .i64 e]] w fun r w' => ∃ (ts : List T7) (ks : List Int) (fs : List F2) (tn : Int) (st : Bool) (B0 B1 B2 : Option Addr) (e0 e1 e2 : Nat), r = .returned (.agg #[.slice B0 ts.length e0, .slice B1 ks.length e1, .slice B2 fs.length e2, .int .i64 tn, .bool st]) ∧ TokI a b c d e ts ks fs tn 0 0 ∧ Sep [] w w' [rT ts.length B0 e0 ts, rK ks.length B1 e1 ks, rF fs.length B2 e2 fs] :=
 (gNewPool_any a b c d e w hp).mono fun r w' ⟨B0, B1, B2, e0, e1, e2, hr, ho, hb⟩ => ⟨[], _, _, _, _, B0, B1, B2, e0, e1, e2, hr, tok_new hp hd, sepPool (Nat.le_refl _) hb ho⟩
theorem gWaitersOn_no (ts : List T7) (ks : List Int) (fs : List F2) (A0 A1 A2 : Option Addr) (c0 c1 c2 : Nat) (tn : Int) (st : Bool) (w : World) (hlen : ts.length ≤ 1048576) (hn : NoW ts) (h : Row w A0 (tcells ts)) :
 Calls Tryz.prog 37 #[.agg #[.slice A0 ts.length c0, .slice A1 ks.length c1, .slice A2 fs.length c2, .int .i64 tn, .bool st], .int .i64 2, .int .i64 0] w fun r w' => ∃ (B : Option Addr) (d : Nat), r = .returned (.slice B 0 d) ∧ Sep [] w w' [rK (waitersM ts 2 0).length B d (waitersM ts 2 0)] :=
 (gWaitersOn_any ts ks fs A0 A1 A2 c0 c1 c2 tn st 2 0 w hlen h).mono fun r w' ⟨B, d, hr, hs⟩ => ⟨B, d, by rw [hr, noW_none hn]; rfl, hs⟩
set_option maxHeartbeats 1000000
set_option maxRecDepth 100000
theorem big_any (A : Option Addr) (len cap : Nat) (w : World) : Calls Tryz.prog 11 #[.slice A len cap] w fun e w' => e = .returned (.bool (decide (4096 < (len : Int)))) ∧ w = w' := by
 go_enter Tryz.func11, Tryz.ntmps11
 go_wp2
 go_ret
 exact ⟨rfl, rfl⟩
def DiceAt (B : Nat) (w : World) (g : Nat) (A : Option Addr) (len cap : Nat) : Prop :=
 B ≤ g ∧ len ≤ 4096 ∧ Bytes w B A len ∧ ∃ (i : Nat) (h : Int), Blk w g 68 #[.slice A len cap, .int .i64 (i : Int), .int .u64 h] ∧ i ≤ len
theorem DiceAt.keep {B : Nat} {w w' : World} {g len cap : Nat} {A : Option Addr} (h : DiceAt B w g A len cap) (hk : ∀ b, b ≤ g → w'.heap[b]? = w.heap[b]?) : DiceAt B w' g A len cap := by
 obtain ⟨h1, h2, h3, i, x, h4, h5⟩ := h
 exact ⟨h1, h2, h3.keep fun b hb => hk b (by omega), i, x, (hk g (Nat.le_refl _)).trans h4, h5⟩
theorem DiceAt.lt {B : Nat} {w : World} {g len cap : Nat} {A : Option Addr} (h : DiceAt B w g A len cap) : g < w.heap.size := by
 obtain ⟨_, _, _, _, _, h4, _⟩ := h
 exact h4.lt
def Moved (B : Nat) (w w' : World) (g : Nat) (A : Option Addr) (len cap : Nat) : Prop := w.grownBy w' (some g) ∧ DiceAt B w' g A len cap
def Gave (lo hi : Int) (B : Nat) (w : World) (g : Nat) (A : Option Addr) (len cap : Nat) (e : Ending) (w' : World) : Prop :=
 ∃ v : Int, e = .returned (.int .i64 v) ∧ lo ≤ v ∧ v ≤ hi ∧ Moved B w w' g A len cap
theorem below_any (B : Nat) (w : World) (g : Nat) (A : Option Addr) (len cap : Nat) (n : Int) (hn : 1 ≤ n) (hn2 : n ≤ 1000000) (hd : DiceAt B w g A len cap) :
 Calls Tryz.prog 14 #[.pointer (some ⟨g, 0, none⟩), .int .i64 n] w (Gave 0 (n - 1) B w g A len cap) := by
 obtain ⟨hB, hl, hby, i, h, hblk, hi⟩ := hd
 have c0 : w.cell? ⟨g, 0, none⟩ = some (.slice A len cap) := hblk.cell 0
 have c1 : w.cell? ⟨g, 1, none⟩ = some (.int .i64 (i : Int)) := hblk.cell 1
 have c2 : w.cell? ⟨g, 2, none⟩ = some (.int .u64 h) := hblk.cell 2
 have f1 : w.frozen? ⟨g, 1, none⟩ = false := hblk.frozen 1
 have f2 : w.frozen? ⟨g, 2, none⟩ = false := hblk.frozen 2
 go_enter Tryz.func14, Tryz.ntmps14
 go_wp2
 generalize hH : IntKind.u64.wrap (IntKind.u64.wrap (h * 6364136223846793005) + 1442695040888963407) = H
 have hb := and24 (H / 8589934592)
 have hX : wrap64 (bits BinOp.and IntKind.u64 (H / 8589934592) 16777215) = bits BinOp.and IntKind.u64 (H / 8589934592) 16777215 := IntWalk.wrap64_in _ (by omega)
 rw [hX]
 generalize bits BinOp.and IntKind.u64 (H / 8589934592) 16777215 = X at hb
 clear hX hH
 have hblk1 := hblk.set_ 2 (.int .u64 H)
 have hgr1 : w.grownBy (w.setCell ⟨g, 2, none⟩ (.int .u64 H)) (some g) := only_setCell (World.grownBy.refl w _) (.inl rfl) _
 generalize w.setCell ⟨g, 2, none⟩ (.int .u64 H) = w1 at hblk1 hgr1
 clear c0 c1 c2 f1 f2
 have c0 : w1.cell? ⟨g, 0, none⟩ = some (.slice A len cap) := hblk1.cell 0
 have c1 : w1.cell? ⟨g, 1, none⟩ = some (.int .i64 (i : Int)) := hblk1.cell 1
 have f1 : w1.frozen? ⟨g, 1, none⟩ = false := hblk1.frozen 1
 by_cases hlt : i < len
 ·obtain ⟨b, off, rfl, hbB, hz⟩ := hby (by omega)
  obtain ⟨z, hz0, hz1, hz2⟩ := hz i hlt
  have hz3 : w1.cell? ⟨b, off + i, none⟩ = some (.int .u8 z) := (World.cell?_of_block (hgr1.block b (by have := hblk.lt; omega) (by intro e; injection e; omega))).trans hz2
  go_quiet (fail)
  go_wp2_with fail
  go_quiet (fail)
  go_wp2
  go_ret
  refine ⟨(X + z) % n, rfl, Int.emod_nonneg _ (by omega), by have := Int.emod_lt_of_pos (X + z) (by omega : 0 < n); omega, only_setCell (only_drewN hgr1 _) (.inl rfl) _, ?_⟩
  refine ⟨hB, hl, hby.keep fun c hc => ?_, i + 1, H, ((hblk1.drewN _).set_ 1 _).to (by simp), by omega⟩
  exact (only_setCell (only_drewN hgr1 _) (.inl rfl) _).block c (by have := hblk.lt; omega) (by intro e; injection e; omega)
 ·go_quiet (fail)
  go_wp2
  go_ret
  refine ⟨X % n, rfl, Int.emod_nonneg _ (by omega), by have := Int.emod_lt_of_pos X (by omega : 0 < n); omega, only_drewN hgr1 _, ?_⟩
  exact ⟨hB, hl, hby.keep fun c hc => hgr1.block c (by have := hblk.lt; omega) (by intro e; injection e; omega), i, H, (hblk1.drewN _).to (by simp), by omega⟩
theorem roll_any (B : Nat) (w : World) (A : Option Addr) (len cap : Nat) (s : Int) (hB : B ≤ w.heap.size) (hl : len ≤ 4096) (hby : Bytes w B A len) :
 Calls Tryz.prog 12 #[.slice A len cap, .int .u64 s] w fun e w' => e = .returned (.pointer (some ⟨w.heap.size, 0, none⟩)) ∧ Below w.heap.size w w' ∧ DiceAt B w' w.heap.size A len cap := by
 go_enter Tryz.func12, Tryz.ntmps12
 go_wp2
 go_loopw [6] (fun i wr => ∃ (k : Nat) (h : Int), k ≤ len ∧ i = .int .i64 k ∧ Below w.heap.size w wr ∧ Blk wr w.heap.size 68 #[.slice A len cap, .int .i64 0, .int .u64 h]) (fun i _ => len - (intOf i).toNat)
 case atStart => exact ⟨0, _, Nat.zero_le _, rfl, (Below.refl _ _).alloc (Nat.le_refl _) _, Blk.new _ _ _⟩
 case round =>
  obtain ⟨k, h, hk, rfl, hbel, hblk⟩ := hrel
  have c2 : wr.cell? ⟨w.heap.size, 2, none⟩ = some (.int .u64 h) := hblk.cell 2
  have f2 : wr.frozen? ⟨w.heap.size, 2, none⟩ = false := hblk.frozen 2
  by_cases hlt : k < len
  ·obtain ⟨b, off, rfl, hbB, hz⟩ := hby (by omega)
   obtain ⟨z, hz0, hz1, hz2⟩ := hz k hlt
   have hz3 : wr.cell? ⟨b, off + k, none⟩ = some (.int .u8 z) := (World.cell?_of_block (hbel.block b (by omega))).trans hz2
   go_wp2
   go_region
   all_goals go_wp2
   all_goals go_roundw
   case rel => exact ⟨k + 1, _, by omega, by go_num, by go_grown, Blk.to (hblk.set_ 2 _) rfl⟩
   case measure => simp [intOf]; omega
  ·go_wp2
   go_ret
   obtain rfl : k = len := by omega
   refine ⟨rfl, hbel, hB, hl, hby.keep fun c hc => hbel.block c (by omega), 0, h, hblk, by omega⟩
def GavePlan (B : Nat) (w : World) (g : Nat) (A : Option Addr) (len cap : Nat) (r : Ending) (w' : World) : Prop :=
 ∃ a b c d e : Int, r = .returned (.agg #[.int .i64 a, .int .i64 b, .int .i64 c, .int .i64 d, .int .i64 e]) ∧ 1 ≤ a ∧ a ≤ 5 ∧ 3 ≤ b ∧ b ≤ 12 ∧ 1 ≤ c ∧ c ≤ 3 ∧ 1 ≤ d ∧ d ≤ 2 ∧ 1 ≤ e ∧ e ≤ 2 ∧ Moved B w w' g A len cap
theorem scheme_any (B : Nat) (w : World) (g : Nat) (A : Option Addr) (len cap : Nat) (hd : DiceAt B w g A len cap) :
 Calls Tryz.prog 13 #[.pointer (some ⟨g, 0, none⟩)] w (GavePlan B w g A len cap) := by
 have hg := hd.lt
 go_enter Tryz.func13, Tryz.ntmps13
 go_wp2_with fail
 have hd0 := hd.keep (w' := w.alloc (.cells #[.int .i64 0, .int .i64 0, .int .i64 0, .int .i64 0, .int .i64 0] 28)) fun b hb => Below.heap_alloc w _ b (by omega)
 go_call (below_any B _ g A len cap 5 (by omega) (by omega) hd0) as r w1 ⟨a, rfl, a1, a2, g1, d1⟩
 go_wp2_with fail
 go_call (below_any B _ g A len cap 10 (by omega) (by omega) d1) as r w2 ⟨b, rfl, b1, b2, g2, d2⟩
 go_wp2_with fail
 go_call (below_any B _ g A len cap 3 (by omega) (by omega) d2) as r w3 ⟨c, rfl, c1, c2, g3, d3⟩
 go_wp2_with fail
 go_call (below_any B _ g A len cap 2 (by omega) (by omega) d3) as r w4 ⟨d, rfl, p1, p2, g4, d4⟩
 go_wp2_with fail
 go_call (below_any B _ g A len cap 2 (by omega) (by omega) d4) as r w5 ⟨e, rfl, e1, e2, g5, d5⟩
 have hgr := grownBy_trans (grownBy_trans (grownBy_trans (grownBy_trans g1 g2) g3) g4) g5
 have hx : (w.alloc (.cells #[.int .i64 0, .int .i64 0, .int .i64 0, .int .i64 0, .int .i64 0] 28)).heap.size = w.heap.size + 1 := by simp
 have hblk := (Blk.new w 28 #[.int .i64 0, .int .i64 0, .int .i64 0, .int .i64 0, .int .i64 0]).grown hgr (by intro e; injection e; omega)
 have hsz := hgr.size
 have q0 : w5.cell? ⟨w.heap.size, 0, none⟩ = some (.int .i64 0) := hblk.cell 0
 have f0 : w5.frozen? ⟨w.heap.size, 0, none⟩ = false := hblk.frozen 0
 have q1 : w5.cell? ⟨w.heap.size, 1, none⟩ = some (.int .i64 0) := hblk.cell 1
 have f1 : w5.frozen? ⟨w.heap.size, 1, none⟩ = false := hblk.frozen 1
 have q2 : w5.cell? ⟨w.heap.size, 2, none⟩ = some (.int .i64 0) := hblk.cell 2
 have f2 : w5.frozen? ⟨w.heap.size, 2, none⟩ = false := hblk.frozen 2
 have q3 : w5.cell? ⟨w.heap.size, 3, none⟩ = some (.int .i64 0) := hblk.cell 3
 have f3 : w5.frozen? ⟨w.heap.size, 3, none⟩ = false := hblk.frozen 3
 have q4 : w5.cell? ⟨w.heap.size, 4, none⟩ = some (.int .i64 0) := hblk.cell 4
 have f4 : w5.frozen? ⟨w.heap.size, 4, none⟩ = false := hblk.frozen 4
 go_wp2
 have hb5 := ((((hblk.set_ 0 (.int .i64 (1 + a))).set_ 1 (.int .i64 (3 + b))).set_ 2 (.int .i64 (1 + c))).set_ 3 (.int .i64 (1 + d))).set_ 4 (.int .i64 (1 + e))
 have hgr5 : w.grownBy w5 (some g) := grownBy_trans (only_of_below ((Below.refl _ _).alloc (Nat.le_refl _) _) _) hgr
 have hbel5 : Below w.heap.size w5 (((((w5.setCell ⟨w.heap.size, 0, none⟩ (.int .i64 (1 + a))).setCell ⟨w.heap.size, 1, none⟩ (.int .i64 (3 + b))).setCell ⟨w.heap.size, 2, none⟩ (.int .i64 (1 + c))).setCell ⟨w.heap.size, 3, none⟩ (.int .i64 (1 + d))).setCell ⟨w.heap.size, 4, none⟩ (.int .i64 (1 + e))) := by go_grown
 exact bodyPost_ret (v := .agg #[.int .i64 (1 + a), .int .i64 (3 + b), .int .i64 (1 + c), .int .i64 (1 + d), .int .i64 (1 + e)]) (by simp [results, Tryz.results13, go_sem, q0, q1, q2, q3, q4]) rfl ⟨_, _, _, _, _, rfl, by omega, by omega, by omega, by omega, by omega, by omega, by omega, by omega, by omega, by omega, grown_then_below hgr5 hbel5, d5.keep fun b hb => hbel5.block b (by omega)⟩
end Go.Proofs.YtfkdfkoigojciaaGreatDoor
