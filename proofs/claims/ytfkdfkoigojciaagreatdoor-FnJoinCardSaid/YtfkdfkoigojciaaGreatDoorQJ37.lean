/- Helpers of the program's lives: a turn or RpFull, whom a worker runs or RpNone, an answer. Lists no longer than a million. -/
import Derived.Test.YtfkdfkoigojciaaGreatDoorQJ36
import Derived.Test.YtfkdfkoigojciaaGreatDoorQJ13
import Derived.Shelf.Abstract
import Derived.Test.YtfkdfkoigojciaaGreatDoorQJ34
import Derived.Test.YtfkdfkoigojciaaGreatDoorQJ15
import Derived.Test.YtfkdfkoigojciaaGreatDoorQJ16

namespace Go.Proofs.YtfkdfkoigojciaaGreatDoor
open Go.RowKit
set_option linter.unusedVariables false
set_option maxRecDepth 100000
set_option maxHeartbeats 1000000 in
theorem waitsOn_any (s l o wt on v t wt2 on2 : Int) (w : World) :
 Calls Tryz.prog 152 #[.agg #[.int .i64 s, .int .i64 l, .int .i64 o, .int .i64 wt, .int .i64 on, .int .i64 v, .int .i64 t], .int .i64 wt2, .int .i64 on2] w fun r w' => r = .returned (.bool (s == 3 && (wt == wt2 && on == on2))) ∧ Below w.heap.size w w' := by
 by_cases h1 : s = 3
 ·subst h1
  by_cases h2 : wt = wt2
  ·subst h2
   rw [show ((3 : Int) == 3 && (wt == wt && on == on2)) = (on == on2) by simp]
   go_enter Tryz.func152, Tryz.ntmps152
   go_wp2_with fail
   go_ret
   exact ⟨rfl, by go_grown⟩
  ·rw [show ((3 : Int) == 3 && (wt == wt2 && on == on2)) = false by simp [h2]]
   go_enter Tryz.func152, Tryz.ntmps152
   go_wp2_with fail
   go_ret
   exact ⟨rfl, by go_grown⟩
 ·rw [show (s == 3 && (wt == wt2 && on == on2)) = false by simp [h1]]
  go_enter Tryz.func152, Tryz.ntmps152
  go_wp2_with fail
  go_ret
  exact ⟨rfl, by go_grown⟩
/-- A new line: nobody stands in it. -/
theorem lineL_new (w : World) : Sep [] w ((w.alloc (.cells #[] 152)).alloc (.cells #[.slice (some ⟨w.heap.size, 0, none⟩) 0 0] 149)) (lineL (w.heap.size + 1) (some ⟨w.heap.size, 0, none⟩) 0 []) := by
 have M := Sep.enter2 (o1 := #[]) (o2 := #[.slice (some ⟨w.heap.size, 0, none⟩) 0 0]) (t1 := 152) (t2 := 149) w
 have hB := M.blk 1 rfl
 have hO : World.ownsRow ((w.alloc (.cells #[] 152)).alloc (.cells #[.slice (some ⟨w.heap.size, 0, none⟩) 0 0] 149)) 0 152 3 (.slice (some ⟨w.heap.size, 0, none⟩) 0 0) 0 (pcells []) := ⟨by simp [pcells], .inr ⟨w.heap.size, 0, #[], rfl, Nat.zero_le _, hB, Nat.le_refl _, Nat.zero_le _, by simp, by simp [pcells]⟩⟩
 have k : Sep (fps [.blk w.heap.size 152 #[]]) _ _ [rP 0 (some ⟨w.heap.size, 0, none⟩) 0 []] := sepOneB (fun _ h => h) (World.grownBy.refl _ _) hO
 exact (Sep.comp (ps := [.blk w.heap.size 152 #[]]) (rs := [.blk (w.heap.size + 1) 149 #[.slice (some ⟨w.heap.size, 0, none⟩) 0 0]]) (M.front 1 rfl) k).front 1 rfl
def waitPl (ts : List T7) (j : Int) : P3 := ⟨0, (taskAt ts j).t, j⟩
theorem wait_eq {ts : List T7} {wt on : Int} {out : List P3} (hs : out.Pairwise leP) (hp : out.Perm ((pick (waitQ ts wt on) ts.length).map fun k => waitPl ts (Int.ofNat k))) : out.map P3.i = waitersM ts wt on := by
 refine line_eq (waitQ ts wt on) (waitP ts) (waitPl ts) (fun _ => rfl) (fun k j hj => ?_) ts.length out hs hp
 have hk : taskAt ts (k : Int) = ts.getD k default := by simp only [taskAt, Int.toNat_natCast]
 simp only [waitP, waitPl, aheadP, if_true, hk]
 split
 ·rename_i h
  rw [h]
  simp; omega
 ·rfl
set_option maxHeartbeats 2000000 in
theorem waitersOn_p (ts : List T7) (xb : Nat) (A0 : Option Addr) (c0 : Nat) (wk on2 : Int) (w : World) (hlen : ts.length ≤ 1048576) (hx : w.cell? ⟨xb, 0, none⟩ = some (.slice A0 ts.length c0)) (h : Row w A0 (tcells ts)) :
 Calls Tryz.prog 94 #[.pointer (some ⟨xb, 0, none⟩), .int .i64 wk, .int .i64 on2] w fun r w' => ∃ (lb : Nat) (A : Option Addr) (c : Nat) (ps : List P3), r = .returned (.pointer (some ⟨lb, 0, none⟩)) ∧ ps.length ≤ ts.length ∧ HeapL ps ∧ ps.Perm ((pick (waitQ ts wk on2) ts.length).map fun k => waitPl ts (Int.ofNat k)) ∧ Sep [] w w' (lineL lb A c ps) := by
 have hxb : xb < w.heap.size := World.block_lt_of_cell? w _ hx
 have H := hide (⟨h, hx⟩ : _ ∧ _)
 clear h
 go_enter Tryz.func94, Tryz.ntmps94
 go_wp2_with fail
 have M := lineL_new w
 generalize (w.alloc (.cells #[] 152)).alloc (.cells #[.slice (some ⟨w.heap.size, 0, none⟩) 0 0] 149) = W1 at M ⊢
 have hx1 : W1.cell? ⟨xb, 0, none⟩ = some (.slice A0 ts.length c0) := (M.below.cell (p := ⟨xb, 0, none⟩) hxb).trans hx
 clear hx
 obtain ⟨lb, hlb⟩ : ∃ lb, lb = w.heap.size + 1 := ⟨_, rfl⟩
 rw [← hlb] at M ⊢
 clear hlb
 go_wp2_with fail
 clear hx1
 go_loopw [17] (fun i wr => ∃ (m : Nat) (A : Option Addr) (c : Nat) (ps : List P3), i = .int .i64 m ∧ m ≤ ts.length ∧ Hid (ps.length ≤ m ∧ HeapL ps ∧ ps.Perm ((pick (waitQ ts wk on2) m).map fun k => waitPl ts (Int.ofNat k))) ∧ Sep [] w wr (lineL lb A c ps)) (fun i _ => (ts.length - (intOf i).toNat : Nat))
 case atStart => exact ⟨0, _, _, [], rfl, Nat.zero_le _, hide ⟨Nat.le_refl _, HeapL.nil, List.Perm.nil⟩, M⟩
 case round =>
  clear M
  obtain ⟨m, A, c, ps, rfl, hm, HP, M⟩ := hrel
  by_cases hmz : m < ts.length
  ·have hmi : (m : Int) < (ts.length : Int) := by omega
   have hm0 : (0 : Int) ≤ (m : Int) := by omega
   obtain ⟨b, off, s, l, o, wt, on, v, t, hA0, _, he, hb, y0, y1, y2, y3, y4, y5, y6⟩ := (H.out.1.below M.below).ts_at hmz
   subst hA0
   have htk : ts.getD m default = ⟨s, l, o, wt, on, v, t⟩ := getD_of he
   have HT := hide htk
   clear htk he
   go_wp2_with fail
   have kT := Blk.new wr 45 #[.int .i64 s, .int .i64 l, .int .i64 o, .int .i64 wt, .int .i64 on, .int .i64 v, .int .i64 t]
   replace M := (Sep.allocN M 45 #[.int .i64 s, .int .i64 l, .int .i64 o, .int .i64 wt, .int .i64 on, .int .i64 v, .int .i64 t]).tail
   generalize wr.alloc (.cells #[.int .i64 s, .int .i64 l, .int .i64 o, .int .i64 wt, .int .i64 on, .int .i64 v, .int .i64 t] 45) = W9 at kT M ⊢
   have q6 : W9.cell? ⟨wr.heap.size, 6, none⟩ = some (.int .i64 t) := kT.cell 6
   have tT := kT.lt
   have q0 : W9.cell? ⟨wr.heap.size, 0, none⟩ = some (.int .i64 s) := kT.cell 0
   have q1 : W9.cell? ⟨wr.heap.size, 1, none⟩ = some (.int .i64 l) := kT.cell 1
   have q2 : W9.cell? ⟨wr.heap.size, 2, none⟩ = some (.int .i64 o) := kT.cell 2
   have q3 : W9.cell? ⟨wr.heap.size, 3, none⟩ = some (.int .i64 wt) := kT.cell 3
   have q4 : W9.cell? ⟨wr.heap.size, 4, none⟩ = some (.int .i64 on) := kT.cell 4
   have q5 : W9.cell? ⟨wr.heap.size, 5, none⟩ = some (.int .i64 v) := kT.cell 5
   go_wp2_with fail
   go_call (waitsOn_any s l o wt on v t wk on2 _) as r W8 ⟨rfl, g1⟩
   replace M := M.call g1
   replace kT := kT.below g1 kT.lt
   clear q0 q1 q2 q3 q4 q5 q6 tT g1
   have q6 : W8.cell? ⟨wr.heap.size, 6, none⟩ = some (.int .i64 t) := kT.cell 6
   have hQ0 : waitQ ts wk on2 m = (s == 3 && (wt == wk && on == on2)) := by unfold waitQ; rw [HT.out]
   obtain ⟨bb, hbb⟩ : ∃ bb, bb = (s == 3 && (wt == wk && on == on2)) := ⟨_, rfl⟩
   rw [← hbb] at hQ0 ⊢
   have hQ := hide hQ0
   clear hQ0 hbb kT
   cases bb
   ·clear q6
    go_wp2_with fail
    go_roundw
    ·refine ⟨m + 1, A, c, ps, by go_num, by omega, hide ⟨by have := HP.out.1; omega, HP.out.2.1, ?_⟩, M⟩
     have h3 : waitQ ts wk on2 m = false := by exact hQ.out
     rw [show pick (waitQ ts wk on2) (m + 1) = pick (waitQ ts wk on2) m by simp [pick, h3]]
     exact HP.out.2.2
    ·simp [intOf]; omega
   ·go_wp2_with fail
    go_call (hpush_any ps lb A c 0 t m (by have := HP.out.1; omega) _ HP.out.2.1 (LineIn.of (rs := []) M)) as r W2 ⟨⟨v', rfl⟩, A', c', qs, hp', hh', M2⟩
    replace M := Sep.comp (ps := lineL lb A c ps) (rs := []) (by simpa using M) M2
    clear M2
    have HQ := hide (⟨hp', hh'⟩ : _ ∧ _)
    clear hp' hh'
    go_wp2_with fail
    go_roundw
    ·refine ⟨m + 1, A', c', qs, by go_num, by omega, hide ⟨?_, HQ.out.2, ?_⟩, M⟩
     ·have h1 := HQ.out.1.length_eq
      have h2 := HP.out.1
      simp at h1; omega
     ·refine HQ.out.1.trans ?_
      have h3 : waitQ ts wk on2 m = true := by exact hQ.out
      rw [show pick (waitQ ts wk on2) (m + 1) = pick (waitQ ts wk on2) m ++ [m] by simp [pick, h3], List.map_append]
      refine List.Perm.append HP.out.2.2 ?_
      simp only [List.map_cons, List.map_nil, waitPl, taskAt, Int.ofNat_eq_natCast, Int.toNat_natCast, HT.out]
      exact List.Perm.refl _
    ·simp [intOf]; omega
  ·have hme : m = ts.length := by omega
   have hmi : ¬ (m : Int) < (ts.length : Int) := by omega
   subst hme
   go_wp2_with fail
   go_ret
   exact ⟨lb, rfl, A, c, ps, HP.out.1, HP.out.2.1, HP.out.2.2, M⟩
set_option maxRecDepth 100000
attribute [local go_sem] Oper.semAt_some
theorem pick_mem {q : Nat → Bool} {n k : Nat} (h : k ∈ pick q n) : k < n ∧ q k = true := by
 induction n with
 | zero => simp [pick] at h
 | succ n ih =>
  simp only [pick] at h
  split at h
  ·rename_i hq
   rcases List.mem_append.1 h with h | h
   ·have := ih h; exact ⟨by omega, this.2⟩
   ·simp at h; subst h; exact ⟨by omega, hq⟩
  ·have := ih h; exact ⟨by omega, this.2⟩
theorem pick_nodup (q : Nat → Bool) (n : Nat) : (pick q n).Nodup := by
 induction n with
 | zero => simp [pick]
 | succ n ih =>
  simp only [pick]
  split
  ·rw [List.nodup_append]
   refine ⟨ih, by simp, fun a ha b hb => ?_⟩
   simp at hb
   have := (pick_mem ha).1
   omega
  ·exact ih
theorem waitersM_nodup (ts : List T7) (wt on : Int) : (waitersM ts wt on).Nodup := by
 unfold waitersM
 rw [(lineM_perm _ _ _).nodup_iff]
 exact List.pairwise_map.2 ((pick_nodup _ _).imp (fun h e => h (Int.ofNat.inj e)))
theorem waitersM_mem {ts : List T7} {wt on j : Int} (h : j ∈ waitersM ts wt on) : ∃ (k : Nat) (x : T7), j = k ∧ k < ts.length ∧ ts[k]? = some x ∧ x.s = 3 ∧ x.wt = wt ∧ x.on = on := by
 unfold waitersM at h
 rw [(lineM_perm _ _ _).mem_iff] at h
 obtain ⟨k, hk, rfl⟩ := List.mem_map.1 h
 obtain ⟨h1, h2⟩ := pick_mem hk
 refine ⟨k, ts[k], rfl, h1, List.getElem?_eq_getElem h1, ?_⟩
 have e : ts.getD k default = ts[k] := by rw [List.getD_eq_getElem?_getD, List.getElem?_eq_getElem h1]; rfl
 simp only [waitQ, e, Bool.and_eq_true, beq_iff_eq] at h2
 exact h2
theorem wakeAllT_snoc (pre : List Int) (j : Int) (ts : List T7) (tn v : Int) : wakeAllT (pre ++ [j]) ts tn v = (wakeAllT pre ts tn v).set j.toNat (wakeT (taskAt (wakeAllT pre ts tn v) j) (tn + pre.length) v) := by
 induction pre generalizing ts tn with
 | nil => simp [wakeAllT]
 | cons i r ih =>
  simp only [List.cons_append, wakeAllT, ih, List.length_cons]
  rw [show tn + 1 + (r.length : Int) = tn + ((r.length + 1 : Nat) : Int) by omega]
theorem wakeAllT_other (pre : List Int) (ts : List T7) (tn v : Int) (k : Nat) (h : (k : Int) ∉ pre) (hp : ∀ j ∈ pre, 0 ≤ j) : (wakeAllT pre ts tn v)[k]? = ts[k]? := by
 induction pre generalizing ts tn with
 | nil => rfl
 | cons i r ih =>
  simp only [wakeAllT]
  rw [ih _ _ (fun hm => h (List.mem_cons_of_mem _ hm)) (fun j hj => hp j (List.mem_cons_of_mem _ hj))]
  have h0 := hp i (List.mem_cons_self ..)
  exact List.getElem?_set_ne (by intro e; apply h; rw [← e]; simp [Int.toNat_of_nonneg h0])
/-- Those who wait can all be woken. -/
def okAll (l : List Int) (v tn : Int) : Bool := l.isEmpty || (btw v 0 9999 && decide (tn + l.length ≤ 1000000))
theorem sorted_of (qs : List P3) : ∃ out : List P3, out.Perm qs ∧ out.Pairwise leP := by
 refine ⟨qs.mergeSort (fun a b => !aheadP b a), List.mergeSort_perm _ _, ?_⟩
 have := List.pairwise_mergeSort (le := fun a b => !aheadP b a) (fun a b c h k => by
  have h1 : leP a b := by simpa [leP] using h
  have h2 : leP b c := by simpa [leP] using k
  simpa [leP] using h1.trans h2) (fun a b => by
  rcases hb : aheadP b a with _ | _
  ·simp
  ·have := leP.of_ahead hb
   unfold leP at this
   simp [this]) qs
 exact this.imp (fun h => by simpa [leP] using h)
def lineLen (w : World) (lb : Nat) : Nat :=
 match w.cell? ⟨lb, 0, none⟩ with
 | some (.slice _ n _) => n
 | _ => 0
theorem lineLen_of {w : World} {lb n c : Nat} {A : Option Addr} (h : w.cell? ⟨lb, 0, none⟩ = some (.slice A n c)) : lineLen w lb = n := by simp [lineLen, h]
theorem fps_line {lb : Nat} {A : Option Addr} {c : Nat} {ps qs : List P3} {g : Nat} : g ∈ fps (lineL lb A c ps) ↔ g ∈ fps (lineL lb A c qs) := by
 cases A <;> exact Iff.rfl
theorem LineIn.above {B : Nat} {w W : World} {lb : Nat} {A : Option Addr} {c : Nat} {ps : List P3} (h : LineIn w lb A c ps) (hB : ∀ g ∈ fps (lineL lb A c ps), B ≤ g) (k : Above B w W) : LineIn W lb A c ps :=
 ⟨rfl, rfl, rfl, Nat.le_refl _, fun _ _ _ => rfl, fun r hr => (h.here r hr).keep fun g hg => k.same g (hB g (mem_fps.2 ⟨r, hr, hg⟩)) ((h.here r hr).lt hg), fun r hr g hg => .inl (mem_fps.2 ⟨r, hr, hg⟩), h.apart⟩
theorem Sep.belowB {S : List Nat} {w W : World} {rs : List Res} {B : Nat} (h : Sep S w W rs) (hS : ∀ g ∈ S, B ≤ g) (hB : B ≤ w.heap.size) : Below B w W :=
 ⟨h.os, h.tape, h.output, h.size, fun b hb => h.block b (Nat.lt_of_lt_of_le hb hB) (fun hm => by have := hS b hm; omega)⟩
theorem Sep.abide {S : List Nat} {w A C : World} {rs : List Res} {B : Nat} (h : Sep S w A rs) (hr : ∀ g ∈ fps rs, g < B) (hw : w.heap.size ≤ B) (k : Below B A C) : Sep S w C rs :=
 ⟨k.os.trans h.os, k.tape.trans h.tape, k.output.trans h.output, Nat.le_trans h.size k.size, fun b hb hn => (k.block b (by omega)).trans (h.block b hb hn), fun r hm => (h.here r hm).keep fun g hg => k.block g (hr g (mem_fps.2 ⟨r, hm, hg⟩)), h.own, h.apart⟩
set_option maxHeartbeats 1000000 in
theorem waiters_any (g : Nat) (wk on2 : Int) (w : World) :
 Calls Tryz.prog 170 #[.pointer (some ⟨g, 0, none⟩), .int .i64 wk, .int .i64 on2] w fun r w' => r = .returned (.func (.func 193) #[] #[.pointer (some ⟨w.heap.size, 0, none⟩), .pointer (some ⟨w.heap.size + 1, 0, none⟩), .pointer (some ⟨w.heap.size + 2, 0, none⟩)]) ∧ w' = ((w.alloc (.cells #[.pointer (some ⟨g, 0, none⟩)] 82)).alloc (.cells #[.int .i64 wk] 2)).alloc (.cells #[.int .i64 on2] 2) := by
 have hmf : ∀ (fn : Fn) (first cap : Array Value) (w : World), (Instr.makeFunc fn first cap).run Tryz.prog w = .ok (.func fn first cap) w := fun _ _ _ _ => rfl
 go_enter Tryz.func170, Tryz.ntmps170
 go_wp2_with fail
 go_ret
 exact ⟨rfl, rfl⟩
set_option maxHeartbeats 2000000 in
theorem waiters_seq (ts : List T7) (xb : Nat) (A0 : Option Addr) (c0 : Nat) (wk on2 : Int) (b3 b4 b5 : Nat) (w : World) (hlen : ts.length ≤ 1048576) (hx : w.cell? ⟨xb, 0, none⟩ = some (.slice A0 ts.length c0)) (h : Row w A0 (tcells ts))
 (h3 : w.cell? ⟨b3, 0, none⟩ = some (.pointer (some ⟨xb, 0, none⟩))) (h4 : w.cell? ⟨b4, 0, none⟩ = some (.int .i64 wk)) (h5 : w.cell? ⟨b5, 0, none⟩ = some (.int .i64 on2)) :
 SeqS Fence.wide 2 Tryz.prog 193 #[.pointer (some ⟨b3, 0, none⟩), .pointer (some ⟨b4, 0, none⟩), .pointer (some ⟨b5, 0, none⟩)] (fun j : Int => #[Value.int .i64 j]) (waitersM ts wk on2) w := by
 intro l J Jx W hW hJ hJx hY h0
 have hx1 : W.cell? ⟨xb, 0, none⟩ = some (.slice A0 ts.length c0) := (hW.cell (p := ⟨xb, 0, none⟩) (World.block_lt_of_cell? w _ hx)).trans hx
 have g3 : W.cell? ⟨b3, 0, none⟩ = some (.pointer (some ⟨xb, 0, none⟩)) := (hW.cell (p := ⟨b3, 0, none⟩) (World.block_lt_of_cell? w _ h3)).trans h3
 have g4 : W.cell? ⟨b4, 0, none⟩ = some (.int .i64 wk) := (hW.cell (p := ⟨b4, 0, none⟩) (World.block_lt_of_cell? w _ h4)).trans h4
 have g5 : W.cell? ⟨b5, 0, none⟩ = some (.int .i64 on2) := (hW.cell (p := ⟨b5, 0, none⟩) (World.block_lt_of_cell? w _ h5)).trans h5
 have hP := hide (waitersOn_p ts xb A0 c0 wk on2 W hlen hx1 (h.below hW))
 have HY := hide (⟨hY, hJ, hJx, h0⟩ : _ ∧ _ ∧ _ ∧ _)
 clear h hx h3 h4 h5 hx1 hY hJ hJx h0
 refine callsIn_of_wp Tryz.func193 rfl trivial ?_ rfl
 simp only [Tryz.ntmps193, List.size_toArray, List.length_cons, List.length_nil, Nat.reduceAdd, Nat.reduceSub, Array.replicate_succ, Array.replicate_zero, List.push_toArray, List.append_toArray, List.nil_append, List.cons_append]
 gi_wp2_with (refine ⟨trivial, ?_⟩; gi_at_call 94; refine (callsIn_wide.2 hP.out).mono ?_; rintro r W1 ⟨lb, A, c, ps, rfl, hl, hh, hp, M⟩)
 have HB : Hid (∀ qs, ∀ g ∈ fps (lineL lb A c qs), W.heap.size ≤ g) := hide (fun qs g hg => by
  obtain ⟨r, hr, hrg⟩ := mem_fps.1 (fps_line.1 hg : g ∈ fps (lineL lb A c ps))
  rcases M.own r hr g hrg with h1 | h1
  ·simp at h1
  ·exact h1)
 have HI := hide (⟨hl, hh, hp, LineIn.of (rs := []) (by simpa using M), HY.out.2.1 _ _ _ HY.out.2.2.2 M.below⟩ : _ ∧ _ ∧ _ ∧ LineIn W1 lb A c ps ∧ J [] W1)
 clear hl hh hp M hP
 gi_loopw [] (fun wr => ∃ (out qs : List P3), Hid ((out ++ qs).Perm ps ∧ out.Pairwise leP ∧ (∀ x ∈ out, ∀ y ∈ qs, leP x y) ∧ HeapL qs) ∧ Hid (LineIn wr lb A c qs ∧ J (out.map P3.i) wr)) (fun wr => lineLen wr lb)
 case atStart => exact ⟨[], ps, hide ⟨List.Perm.refl _, List.Pairwise.nil, by simp, HI.out.2.1⟩, hide ⟨HI.out.2.2.2.1, HI.out.2.2.2.2⟩⟩
 case round =>
  obtain ⟨out, qs, HP, HL⟩ := hrel
  have hlen2 : out.length + qs.length = ps.length := by have := HP.out.1.length_eq; simpa using this
  have hql : qs.length ≤ 1048576 := by have := HI.out.1; omega
  have qL : wr.cell? ⟨lb, 0, none⟩ = some (.slice A qs.length c) := Sep.cell HL.out.1 0 0 rfl
  have tL : lb < wr.heap.size := Sep.lt HL.out.1 0 rfl
  have HS : Hid (W.heap.size ≤ wr.heap.size) := hide (by have := HB.out qs lb (mem_fps.2 ⟨_, List.mem_cons_self .., rfl⟩); omega)
  by_cases h0 : qs = []
  ·subst h0
   have qL2 : wr.cell? ⟨lb, 0, none⟩ = some (.slice A 0 c) := qL
   clear qL hlen2
   gi_wp2_with (refine ⟨trivial, ?_⟩; gi_at_call 144; refine (callsIn_wide.2 (len_any A 0 c _)).mono ?_; rintro r W2 ⟨rfl, rfl⟩)
   have hp2 := HP.out.1
   rw [List.append_nil] at hp2
   have he := wait_eq HP.out.2.1 (hp2.trans HI.out.2.2.1)
   have hJ := HL.out.2
   rw [he] at hJ
   go_end0
   exact ⟨⟨_, rfl⟩, .inl hJ⟩
  ·have hpos : 0 < qs.length := List.length_pos_iff.2 h0
   have hpi : (0 : Int) < (qs.length : Int) := by omega
   clear h0
   have hN := next_any qs lb A c hpos hql wr HP.out.2.2.2 HL.out.1
   have HR : Hid (∀ W3 q2, (at3 qs 0 :: q2).Perm qs → HeapL q2 → Sep (fps (lineL lb A c qs)) wr W3 (lineL lb A c q2) → YieldAt Fence.wide (2 - 1) Tryz.prog l #[.int .i64 (at3 qs 0).i] W3 fun e W' => (e = .returned (.bool true) ∧ (∃ out2, Hid ((out2 ++ q2).Perm ps ∧ out2.Pairwise leP ∧ (∀ x ∈ out2, ∀ y ∈ q2, leP x y) ∧ HeapL q2) ∧ Hid (LineIn W' lb A c q2 ∧ J (out2.map P3.i) W')) ∧ lineLen W' lb < lineLen wr lb) ∨ (e = .returned (.bool false) ∧ ∃ pre, pre <+: waitersM ts wk on2 ∧ Jx pre W')) := hide (fun W3 q2 hp2 hh2 M2 => by
    have hyq : at3 qs 0 ∈ qs := hp2.subset (List.mem_cons_self ..)
    have hq2 : ∀ z ∈ q2, z ∈ qs := fun z hz => hp2.subset (List.mem_cons_of_mem _ hz)
    have hperm : ((out ++ [at3 qs 0]) ++ q2).Perm ps := by
     rw [List.append_assoc]
     exact (List.Perm.append_left out hp2).trans HP.out.1
    have hpw : (out ++ [at3 qs 0]).Pairwise leP := List.pairwise_append.2 ⟨HP.out.2.1, by simp, fun a ha b hb => by simp at hb; subst hb; exact HP.out.2.2.1 a ha _ hyq⟩
    have hle : ∀ x ∈ out ++ [at3 qs 0], ∀ y ∈ q2, leP x y := fun a ha z hz => by
     rcases List.mem_append.1 ha with ha | ha
     ·exact HP.out.2.2.1 a ha z (hq2 z hz)
     ·simp at ha
      subst ha
      exact HP.out.2.2.2.first z (hq2 z hz)
    have hpre : out.map P3.i ++ [(at3 qs 0).i] <+: waitersM ts wk on2 := by
     obtain ⟨srt, hs1, hs2⟩ := sorted_of q2
     have he := wait_eq (ts := ts) (wt := wk) (on := on2) (out := (out ++ [at3 qs 0]) ++ srt) (List.pairwise_append.2 ⟨hpw, hs2, fun a ha b hb => hle a ha b (hs1.subset hb)⟩) (((List.Perm.append_left _ hs1).trans hperm).trans HI.out.2.2.1)
     rw [← he]
     exact ⟨srt.map P3.i, by simp⟩
    have hB3 : Below W.heap.size wr W3 := M2.belowB (HB.out qs) HS.out
    obtain ⟨fn, tmps, assign, body, hy, hR⟩ := HY.out.1 _ _ W3 (HY.out.2.1 _ _ _ HL.out.2 hB3) hpre
    refine ⟨fn, tmps, assign, body, hy, hR.mono ?_⟩
    rintro e W4 (⟨rfl, hJ4, hk4⟩ | ⟨rfl, hJ4⟩)
    ·have hL4 : LineIn W4 lb A c q2 := LineIn.above (LineIn.of (rs := []) (by simpa using M2)) (HB.out q2) hk4
     refine .inl ⟨rfl, ⟨out ++ [at3 qs 0], hide ⟨hperm, hpw, hle, hh2⟩, hide ⟨hL4, by rw [List.map_append]; exact hJ4⟩⟩, ?_⟩
     rw [lineLen_of (Sep.cell hL4 0 0 rfl), lineLen_of (Sep.cell HL.out.1 0 0 rfl)]
     have := hp2.length_eq
     simp at this
     omega
    ·exact .inr ⟨rfl, _, hpre, hJ4⟩)
   generalize (at3 qs 0).i = yi at hN HR
   generalize at3 qs 0 = y at hN HR
   gi_wp2_with (first | (refine ⟨trivial, ?_⟩; gi_at_call 144; refine (callsIn_wide.2 (len_any A qs.length c _)).mono ?_; rintro r W2 ⟨rfl, rfl⟩) | (refine ⟨trivial, ?_⟩; gi_at_call 145; refine (callsIn_wide.2 hN).mono ?_; rintro r W3 ⟨rfl, q2, hp2, hh2, M2⟩; obtain ⟨fn, tmps, assign, body, hy, hR⟩ := HR.out W3 q2 hp2 hh2 M2; clear hp2 hh2 M2))
   refine hR.mono ?_
   rintro e W4 (⟨rfl, ⟨out2, HP2, HL2⟩, hm⟩ | ⟨rfl, hx4⟩)
   ·have Hm := hide hm
    clear hm
    gi_wp2_with fail
    go_roundw
    case rel => exact ⟨out2, q2, HP2, HL2⟩
    case measure => exact Hm.out
   ·have HX := hide hx4
    clear hx4
    gi_wp2_with fail
    refine bodyPost_ret (results_none rfl _ _ _) rfl ?_
    exact ⟨⟨_, rfl⟩, .inr HX.out⟩
theorem above_set {B : Nat} (W : World) (b j : Nat) (u : Value) (hb : b < B) : Above B W (W.setCell ⟨b, j, none⟩ u) :=
 ⟨by simp [World.setCell], fun k hk _ => Below.heap_setCell W _ u k (by simp only; omega)⟩
theorem Sep.allLt {S : List Nat} {w W : World} {rs : List Res} (h : Sep S w W rs) : ∀ g ∈ fps rs, g < W.heap.size := fun g hg => by
 obtain ⟨r, hr, hrg⟩ := mem_fps.1 hg
 exact (h.here r hr).lt hrg
set_option maxHeartbeats 2000000 in
theorem wakeAll_any (ts : List T7) (A0 A1 A2 : Option Addr) (c0 n1 c1 n2 c2 : Nat) (tn : Int) (st : Bool) (g : Nat) (wk on2 v : Int) (w : World) (hlen : ts.length ≤ 1048576) (t0 : 0 ≤ tn) (t1 : tn ≤ 1000000) (h : Sep (fps [.blk g 35 #[.slice A0 ts.length c0, .slice A1 n1 c1, .slice A2 n2 c2, .int .i64 tn, .bool st], rT ts.length A0 c0 ts]) w w [.blk g 35 #[.slice A0 ts.length c0, .slice A1 n1 c1, .slice A2 n2 c2, .int .i64 tn, .bool st], rT ts.length A0 c0 ts]) :
 Calls Tryz.prog 135 #[.pointer (some ⟨g, 0, none⟩), .int .i64 wk, .int .i64 on2, .int .i64 v] w fun r w' => ∃ (us : List T7) (tn' cnt : Int), r = .returned (.int .i64 cnt) ∧ us.length = ts.length ∧ Sep (fps [.blk g 35 #[.slice A0 ts.length c0, .slice A1 n1 c1, .slice A2 n2 c2, .int .i64 tn, .bool st], rT ts.length A0 c0 ts]) w w' [.blk g 35 #[.slice A0 ts.length c0, .slice A1 n1 c1, .slice A2 n2 c2, .int .i64 tn', .bool st], rT ts.length A0 c0 us] ∧ ((okAll (waitersM ts wk on2) v tn = true ∧ cnt = ((waitersM ts wk on2).length : Int) ∧ us = wakeAllT (waitersM ts wk on2) ts tn v ∧ tn' = tn + ((waitersM ts wk on2).length : Int)) ∨ (okAll (waitersM ts wk on2) v tn = false ∧ cnt = -1)) := by
 obtain ⟨S, hS⟩ : ∃ S, S = fps [.blk g 35 #[.slice A0 ts.length c0, .slice A1 n1 c1, .slice A2 n2 c2, .int .i64 tn, .bool st], rT ts.length A0 c0 ts] := ⟨_, rfl⟩
 rw [← hS] at h ⊢
 clear hS
 have H := hide h
 clear h
 have hSeq : Hid (∀ (y3 y4 y5 : Nat) (W : World), W.cell? ⟨g, 0, none⟩ = some (.slice A0 ts.length c0) → Row W A0 (tcells ts) → W.cell? ⟨y3, 0, none⟩ = some (.pointer (some ⟨g, 0, none⟩)) → W.cell? ⟨y4, 0, none⟩ = some (.int .i64 wk) → W.cell? ⟨y5, 0, none⟩ = some (.int .i64 on2) → SeqS Fence.wide 2 Tryz.prog 193 #[.pointer (some ⟨y3, 0, none⟩), .pointer (some ⟨y4, 0, none⟩), .pointer (some ⟨y5, 0, none⟩)] (fun j : Int => #[Value.int .i64 j]) (waitersM ts wk on2) W) := hide (fun y3 y4 y5 W h1 h2 h3 h4 h5 => waiters_seq ts g A0 c0 wk on2 y3 y4 y5 W hlen h1 h2 h3 h4 h5)
 have HL := hide (⟨waitersM_nodup ts wk on2, fun j => waitersM_mem (ts := ts) (wt := wk) (on := on2) (j := j)⟩ : _ ∧ _)
 generalize waitersM ts wk on2 = L at hSeq HL ⊢
 refine (callsIn_wide (n := 3)).1 ?_
 refine callsIn_of_wp_marks Tryz.func135 rfl trivial ?_ rfl
 simp only [Tryz.ntmps135, List.size_toArray, List.length_cons, List.length_nil, Nat.reduceAdd, Nat.reduceSub, Array.replicate_succ, Array.replicate_zero, List.push_toArray, List.append_toArray, List.nil_append, List.cons_append]
 gi_wp2_with fail
 have M := ((((H.out.alloc 82 #[.pointer (some ⟨g, 0, none⟩)] w.heap.size rfl).alloc 2 #[.int .i64 v] (w.heap.size + 1) (by simp)).alloc 2 #[.int .i64 0] (w.heap.size + 1 + 1) (by simp)).alloc 2 #[.int .i64 0] (w.heap.size + 1 + 1 + 1) (by simp))
 clear H
 generalize (((w.alloc (.cells #[.pointer (some ⟨g, 0, none⟩)] 82)).alloc (.cells #[.int .i64 v] 2)).alloc (.cells #[.int .i64 0] 2)).alloc (.cells #[.int .i64 0] 2) = W4 at M ⊢
 obtain ⟨bx, hbx⟩ : ∃ bx, bx = w.heap.size := ⟨_, rfl⟩
 obtain ⟨b7, hb7⟩ : ∃ b7, b7 = w.heap.size + 1 := ⟨_, rfl⟩
 obtain ⟨b8, hb8⟩ : ∃ b8, b8 = w.heap.size + 1 + 1 := ⟨_, rfl⟩
 obtain ⟨b9, hb9⟩ : ∃ b9, b9 = w.heap.size + 1 + 1 + 1 := ⟨_, rfl⟩
 rw [← hb9, ← hb8, ← hb7, ← hbx] at M ⊢
 clear hb9 hb8 hb7 hbx
 refine ⟨trivial, ?_⟩
 refine (callsIn_wide.2 (waiters_any g wk on2 W4)).mono ?_
 rintro r W7 ⟨rfl, hW7⟩
 have M7 := ((M.alloc 82 #[.pointer (some ⟨g, 0, none⟩)] W4.heap.size rfl).alloc 2 #[.int .i64 wk] (W4.heap.size + 1) (by simp)).alloc 2 #[.int .i64 on2] (W4.heap.size + 2) (by simp)
 rw [← hW7] at M7
 clear M hW7
 obtain ⟨y3, hy3⟩ : ∃ y3, y3 = W4.heap.size := ⟨_, rfl⟩
 obtain ⟨y4, hy4⟩ : ∃ y4, y4 = W4.heap.size + 1 := ⟨_, rfl⟩
 obtain ⟨y5, hy5⟩ : ∃ y5, y5 = W4.heap.size + 2 := ⟨_, rfl⟩
 rw [← hy5, ← hy4, ← hy3] at M7 ⊢
 clear hy5 hy4 hy3
 have hseq := hSeq.out y3 y4 y5 W7 (M7.cell 7 0 rfl) (M7.rowS 8 rfl) (M7.cell 2 0 rfl) (M7.cell 1 0 rfl) (M7.cell 0 0 rfl)
 have M := M7.drop 3
 clear M7
 replace M : Sep S w W7 [.blk b9 2 #[.int .i64 0], .blk b8 2 #[.int .i64 0], .blk b7 2 #[.int .i64 v], .blk bx 82 #[.pointer (some ⟨g, 0, none⟩)], .blk g 35 #[.slice A0 ts.length c0, .slice A1 n1 c1, .slice A2 n2 c2, .int .i64 tn, .bool st], rT ts.length A0 c0 ts] := M
 have hlt := hide M.allLt
 have hsz : w.heap.size ≤ W7.heap.size := M.size
 have HSEQ := hide hseq
 have HM := hide M
 clear hseq M
 gi_wp2_with fail
 refine wpIn_range_s (F := Fence.wide) (n := 3) rfl (by decide) (enc := fun j : Int => #[Value.int .i64 j]) (gf := 193) (lb := #[.pointer (some ⟨y3, 0, none⟩), .pointer (some ⟨y4, 0, none⟩), .pointer (some ⟨y5, 0, none⟩)]) rfl trivial (Go.Proofs.enters_of Tryz.func193 (by kernel_rfl) rfl) HSEQ.out (Below.refl _ _) (fun _ => rfl)
  (fun pre W => Hid (pre = [] ∨ (btw v 0 9999 = true ∧ tn + pre.length ≤ 1000000)) ∧ Hid (Sep S w W [.blk b9 2 #[.int .i64 pre.length], .blk b8 2 #[.int .i64 0], .blk b7 2 #[.int .i64 v], .blk bx 82 #[.pointer (some ⟨g, 0, none⟩)], .blk g 35 #[.slice A0 ts.length c0, .slice A1 n1 c1, .slice A2 n2 c2, .int .i64 (tn + pre.length), .bool st], rT ts.length A0 c0 (wakeAllT pre ts tn v)]))
  (fun _ _ W => okAll L v tn = false ∧ ∃ (us : List T7) (tn' cn : Int), us.length = ts.length ∧ Sep S w W [.blk b9 2 #[.int .i64 cn], .blk b8 2 #[.int .i64 (-1)], .blk b7 2 #[.int .i64 v], .blk bx 82 #[.pointer (some ⟨g, 0, none⟩)], .blk g 35 #[.slice A0 ts.length c0, .slice A1 n1 c1, .slice A2 n2 c2, .int .i64 tn', .bool st], rT ts.length A0 c0 us])
  (fun s A C hs hb => ⟨hs.1, hide (hs.2.out.abide hlt.out hsz hb)⟩)
  (fun _ s A C hs hb => by
   obtain ⟨h1, us, tn', cn, h2, h3⟩ := hs
   exact ⟨h1, us, tn', cn, h2, h3.abide hlt.out hsz hb⟩)
  ⟨hide (.inl rfl), hide (by simpa [wakeAllT] using HM.out)⟩
  (fun x => { tmps := #[.pointer (some ⟨g, 0, none⟩), .int .i64 wk, .int .i64 on2, .int .i64 v, .pointer (some ⟨bx, 0, none⟩), undef, undef, .pointer (some ⟨b7, 0, none⟩), .pointer (some ⟨b8, 0, none⟩), .pointer (some ⟨b9, 0, none⟩), .int .i64 x, .pointer (some ⟨g, 0, none⟩), .int .i64 wk, .int .i64 on2, .func (.func 193) #[] #[.pointer (some ⟨y3, 0, none⟩), .pointer (some ⟨y4, 0, none⟩), .pointer (some ⟨y5, 0, none⟩)], .int .i64 x, undef, undef, undef, undef, undef, undef, undef, undef], defers := [] }) ?assign ?body ?done ?stop
 case assign =>
  intro l x W K hK
  gi_wp2_with fail
  exact hK
 case body =>
  rintro l pre x W hszW ⟨HP, HM2⟩ hpre
  have hxL : x ∈ L := hpre.subset (by simp)
  obtain ⟨k, y, rfl, hkl, hky, hys, _, _⟩ := HL.out.2 x hxL
  have hpreL : pre <+: L := (List.prefix_append pre [(k : Int)]).trans hpre
  have hnot : (k : Int) ∉ pre := fun hm => by
   have hnd := HL.out.1.sublist hpre.sublist
   exact (List.nodup_append.1 hnd).2.2 _ hm _ (by simp) rfl
  have hnn : ∀ j ∈ pre, 0 ≤ j := fun j hj => by
   obtain ⟨k2, _, rfl, _⟩ := HL.out.2 j (hpreL.subset hj)
   omega
  have hlt2 : pre.length < L.length := by
   have := hpre.length_le
   simp at this; omega
  have hus : (wakeAllT pre ts tn v)[k]? = some y := by rw [wakeAllT_other _ _ _ _ _ hnot hnn]; exact hky
  have hul : (wakeAllT pre ts tn v).length = ts.length := wakeAllT_length _ _ _ _
  have hsn := wakeAllT_snoc pre (k : Int) ts tn v
  rw [show ((k : Int)).toNat = k from rfl, taskAt_of hus] at hsn
  obtain ⟨us, hus2⟩ : ∃ us, us = wakeAllT pre ts tn v := ⟨_, rfl⟩
  rw [← hus2] at HM2 hus hul hsn
  clear hus2
  obtain ⟨s, lv, o, wt, on, v0, t⟩ := y
  simp only at hys
  subst hys
  have HC := hide (⟨HP.out, hus, hul, hsn, hpreL, hlt2, hkl, hxL⟩ : _ ∧ _ ∧ _ ∧ _ ∧ _ ∧ _ ∧ _ ∧ _)
  clear hus hsn hpreL hlt2 hnot hnn hky hkl HP hxL
  obtain ⟨t9, q9, f9⟩ := HM2.out.f1 0 rfl
  obtain ⟨t8, q8, f8⟩ := HM2.out.f1 1 rfl
  obtain ⟨t7, q7, f7⟩ := HM2.out.f1 2 rfl
  obtain ⟨tx, qx, fx⟩ := HM2.out.f1 3 rfl
  have hlt9 : b9 < W7.heap.size := hlt.out b9 (mem_fps.2 ⟨_, List.mem_cons_self .., rfl⟩)
  have hlt8 : b8 < W7.heap.size := hlt.out b8 (mem_fps.2 ⟨_, List.mem_cons_of_mem _ (List.mem_cons_self ..), rfl⟩)
  gi_wp2_with fail
  refine ⟨trivial, ?_⟩
  have MF : Sep S w W [.blk g 35 #[.slice A0 ts.length c0, .slice A1 n1 c1, .slice A2 n2 c2, .int .i64 (tn + pre.length), .bool st], rT ts.length A0 c0 us, .blk b9 2 #[.int .i64 pre.length], .blk b8 2 #[.int .i64 0], .blk b7 2 #[.int .i64 v], .blk bx 82 #[.pointer (some ⟨g, 0, none⟩)]] := HM2.out.perm (List.perm_append_comm (l₁ := [_, _, _, _]) (l₂ := [_, _]))
  clear HM2 q9 f9 q8 f8 q7 f7 qx fx t9 t8 t7 tx
  by_cases hc : btw v 0 9999 = true ∧ tn + pre.length < 1000000
  ·have hcan : canB us k v (tn + pre.length) = true := by
    have h1 : taskAt us k = _ := taskAt_of HC.out.2.1
    simp only [canB, isInB, h1, hc.1, hul]
    have h2 := HC.out.2.2.2.2.2.2.1
    simp [btw]
    omega
   have hw := wake_yes us A0 A1 A2 c0 n1 c1 n2 c2 (tn + pre.length) st g k v 3 lv o wt on v0 t W (by omega) (by omega) HC.out.2.1 (by rw [hul]; exact Sep.same (ps := [.blk g 35 #[.slice A0 ts.length c0, .slice A1 n1 c1, .slice A2 n2 c2, .int .i64 (tn + pre.length), .bool st], rT ts.length A0 c0 us]) MF (Below.refl _ _)) hcan
   rw [hul, ← HC.out.2.2.2.1] at hw
   refine (CallsIn.inRound l (callsIn_wide.2 hw)).mono ?_
   clear hw hcan
   rintro r W2 ⟨rfl, M2⟩
   have hPT : ∀ g' ∈ fps [.blk g 35 #[.slice A0 ts.length c0, .slice A1 n1 c1, .slice A2 n2 c2, .int .i64 (tn + pre.length), .bool st], rT ts.length A0 c0 us], g' < W7.heap.size := by
    intro g' hg'
    obtain ⟨r, hr, hrg⟩ := mem_fps.1 hg'
    simp only [List.mem_cons, List.not_mem_nil, or_false] at hr
    rcases hr with rfl | rfl
    ·exact hlt.out g' (mem_fps.2 ⟨.blk g 35 #[.slice A0 ts.length c0, .slice A1 n1 c1, .slice A2 n2 c2, .int .i64 tn, .bool st], by simp, hrg⟩)
    ·exact hlt.out g' (mem_fps.2 ⟨rT ts.length A0 c0 ts, by simp, hrg⟩)
   have hA : Above W7.heap.size W W2 := M2.above hPT
   clear hPT
   have M3 := (Sep.comp (ps := [.blk g 35 #[.slice A0 ts.length c0, .slice A1 n1 c1, .slice A2 n2 c2, .int .i64 (tn + pre.length), .bool st], rT ts.length A0 c0 us]) (rs := [.blk b9 2 #[.int .i64 pre.length], .blk b8 2 #[.int .i64 0], .blk b7 2 #[.int .i64 v], .blk bx 82 #[.pointer (some ⟨g, 0, none⟩)]]) MF M2).perm (List.perm_append_comm (l₁ := [_, _]) (l₂ := [_, _, _, _]))
   clear M2 MF
   obtain ⟨t9, q9, f9⟩ := Sep.f1 M3 0 rfl
   gi_wp2_with fail
   refine ⟨hA.trans (above_set _ _ _ _ hlt9), hide (.inr ⟨hc.1, ?_⟩), hide ?_⟩
   ·rw [List.length_append]; simp only [List.length_cons, List.length_nil]; omega
   ·have M4 := M3.set 0 rfl 0 (.int .i64 (pre.length + 1))
    rw [show ((pre ++ [(k : Int)]).length : Int) = pre.length + 1 by simp, show tn + ((pre.length : Int) + 1) = tn + pre.length + 1 by omega]
    exact M4
  ·have hno : okAll L v tn = false := by
    have h2 := HC.out.2.2.2.2.2.1
    have hne : L.isEmpty = false := by
     cases L with
     | nil => simp at h2
     | cons a r => rfl
    rcases hb : btw v 0 9999 with _ | _
    ·simp only [okAll, hb, hne, Bool.false_and, Bool.or_false]
    ·have h3 : ¬ tn + pre.length < 1000000 := fun h => hc ⟨hb, h⟩
     have h4 : ¬ tn + L.length ≤ 1000000 := by omega
     simp only [okAll, hb, hne, Bool.true_and, Bool.false_or, decide_eq_false h4]
   have hcan : canB us k v (tn + pre.length) = false := by
    rw [Bool.eq_false_iff]
    intro h1
    simp only [canB, Bool.and_eq_true, decide_eq_true_eq] at h1
    exact hc h1.2
   have hw := wake_no us A0 A1 A2 c0 n1 c1 n2 c2 (tn + pre.length) st g k v W (by omega) (by rw [hul]; exact MF.blk 0 rfl) (MF.rowS 1 rfl) hcan
   refine (CallsIn.inRound l (callsIn_wide.2 hw)).mono ?_
   clear hw hcan
   rintro r W2 ⟨rfl, g1⟩
   have hA : Above W7.heap.size W W2 := ⟨g1.size, fun k _ hk => g1.block k hk⟩
   have M3 := (MF.call g1).perm (List.perm_append_comm (l₁ := [_, _]) (l₂ := [_, _, _, _]))
   clear g1 MF
   obtain ⟨t8, q8, f8⟩ := Sep.f1 M3 1 rfl
   gi_wp2_with fail
   exact ⟨hA.trans (above_set _ _ _ _ hlt8), hno, us, tn + pre.length, pre.length, hul, M3.set 1 rfl 0 _⟩
 case done =>
  rintro D W hD ⟨HP, HM2⟩ hK
  obtain ⟨t9, q9, f9⟩ := HM2.out.f1 0 rfl
  obtain ⟨t8, q8, f8⟩ := HM2.out.f1 1 rfl
  have hlt8 : b8 < W7.heap.size := hlt.out b8 (mem_fps.2 ⟨_, List.mem_cons_of_mem _ (List.mem_cons_self ..), rfl⟩)
  have hDlt : D < W.heap.size := (Array.getElem?_eq_some_iff.1 hK).1
  have HK := hide hK
  clear hK
  gi_wp2_with fail
  have hK2 : (W.setCell ⟨b8, 0, none⟩ (.int .i64 L.length)).heap[D]? = some (.deferred (some [])) := (Below.heap_setCell W _ _ D (by simp only; omega)).trans HK.out
  have M2 := (HM2.out.set 1 rfl 0 (.int .i64 L.length)).abide hlt.out hsz (below_put _ D (.deferred none) hD (by simp [World.setCell]; omega))
  refine ⟨by simp, .inl ⟨_, _, rfl, run_takeDeferred hK2, ?_⟩⟩
  have q8' := M2.cell 1 0 rfl
  have hok : okAll L v tn = true := by
   rcases HP.out with h1 | h1
   ·simp [okAll, h1]
   ·simp [okAll, h1.1, h1.2]
  exact ⟨.int .i64 L.length, by simp [results, Tryz.results135, go_sem, q8'], _, _, _, rfl, wakeAllT_length _ _ _ _, M2.drop 4, .inl ⟨hok, rfl, rfl, rfl⟩⟩
 case stop =>
  rintro D pre W hD hpre ⟨hno, us, tn', cn, hul, M⟩ hK
  have hDlt : D < W.heap.size := (Array.getElem?_eq_some_iff.1 hK).1
  have M2 := M.abide hlt.out hsz (below_put _ D (.deferred none) hD (by omega))
  have HM2 := hide M2
  have HK := hide hK
  clear M M2 hK
  gi_wp2_with fail
  refine ⟨by simp, .inl ⟨_, _, rfl, run_takeDeferred HK.out, ?_⟩⟩
  have q8' := HM2.out.cell 1 0 rfl
  exact ⟨.int .i64 (-1), by simp [results, Tryz.results135, go_sem, q8'], us, tn', -1, rfl, hul, HM2.out.drop 4, .inr ⟨hno, rfl⟩⟩
set_option maxRecDepth 100000
set_option maxHeartbeats 400000 in
theorem runNone_ok (ts : List T7) (A0 A1 A2 : Option Addr) (c0 n1 c1 n2 c2 : Nat) (tn : Int) (st : Bool) (wk : Int) (g : Nat) (me : Int) (w : World) (hlen : ts.length ≤ 1048576) (hg : Blk w g 35 #[.slice A0 ts.length c0, .slice A1 n1 c1, .slice A2 n2 c2, .int .i64 tn, .bool st]) (h0 : Row w A0 (tcells ts)) (hr : runM ts wk 0 = me) (hm : 0 ≤ me) :
 Calls Tryz.prog 134 #[.pointer (some ⟨g, 0, none⟩), .int .i64 wk] w fun r w' => r = .returned (.int .i64 me) ∧ Below w.heap.size w w' := by
 have hR := hide (runBy_any ts A0 A1 A2 c0 n1 c1 n2 c2 tn st wk g w hlen hg h0)
 rw [hr] at hR
 have hne : (me == -1) = false := by rw [beq_eq_false_iff_ne]; omega
 clear hg h0 hr hm
 go_enter Tryz.func134, Tryz.ntmps134
 go_wp2_with fail
 refine Calls.mono (by with_reducible exact hR.out) ?_
 rintro r W ⟨rfl, g1⟩
 go_wp2_with fail
 go_call (giveUp_no 2 _) as r W ⟨rfl, rfl⟩
 go_wp2_with fail
 go_ret
 exact ⟨rfl, g1⟩
set_option maxHeartbeats 400000 in
theorem okWith_any (o : Int) (w : World) :
 Calls Tryz.prog 136 #[.int .i64 o] w fun r w' => r = .returned (.agg #[.int .i64 1, .int .i64 o]) ∧ Below w.heap.size w w' := by
 go_enter Tryz.func136, Tryz.ntmps136
 go_wp2
 exact bodyPost_ret (v := .agg #[.int .i64 1, .int .i64 o]) (by simp [results, Tryz.results136, go_sem]) rfl ⟨rfl, by go_grown⟩
theorem runM_low (ts : List T7) (wk i : Int) : runM ts wk i = -1 ∨ i ≤ runM ts wk i := by
 induction ts generalizing i with
 | nil => exact .inl rfl
 | cons t r ih =>
  simp only [runM]
  split
  ·exact .inr (Int.le_refl _)
  ·exact (ih (i + 1)).imp id (fun h => by omega)
theorem runM_none {ts : List T7} {wk : Int} (h : runM ts wk 0 < 0) : runM ts wk 0 = -1 :=
 (runM_low ts wk 0).elim id (fun h1 => by omega)
end Go.Proofs.YtfkdfkoigojciaaGreatDoor
