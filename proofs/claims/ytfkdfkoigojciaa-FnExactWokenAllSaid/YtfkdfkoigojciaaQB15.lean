/- Drawn regions in which two blocks are made, at whatever time, beside a chain of calls. No condition. -/
import Derived.Shelf.Abstract
import Derived.Test.YtfkdfkoigojciaaQB13
import Derived.Test.YtfkdfkoigojciaaQB14
import Derived.Test.YtfkdfkoigojciaaQB09
import Derived.Test.YtfkdfkoigojciaaQB12
import Derived.Test.YtfkdfkoigojciaaQB10
import Derived.Test.YtfkdfkoigojciaaQB04

namespace Go.Proofs.Ytfkdfkoigojciaa
open Go.RowKit
set_option linter.unusedVariables false
set_option maxRecDepth 100000
attribute [local go_sem] Oper.semAt_some
theorem pick_mem {q : Nat → Bool} {n k : Nat} (h : k ∈ pick q n) : k < n ∧ q k = true := by
 induction n with
 | zero => simp [pick] at h
 | succ n ih =>
  simp only [pick] at h
  split at h
  ·rename_i hq
   rcases List.mem_append.1 h with h | h
   ·have := ih h; exact ⟨by omega, this.2⟩
   ·simp at h; subst h; exact ⟨by omega, hq⟩
  ·have := ih h; exact ⟨by omega, this.2⟩
theorem pick_nodup (q : Nat → Bool) (n : Nat) : (pick q n).Nodup := by
 induction n with
 | zero => simp [pick]
 | succ n ih =>
  simp only [pick]
  split
  ·rw [List.nodup_append]
   refine ⟨ih, by simp, fun a ha b hb => ?_⟩
   simp at hb
   have := (pick_mem ha).1
   omega
  ·exact ih
theorem waitersM_nodup (ts : List T7) (wt on : Int) : (waitersM ts wt on).Nodup := by
 unfold waitersM
 rw [(lineM_perm _ _ _).nodup_iff]
 exact List.pairwise_map.2 ((pick_nodup _ _).imp (fun h e => h (Int.ofNat.inj e)))
theorem waitersM_mem {ts : List T7} {wt on j : Int} (h : j ∈ waitersM ts wt on) : ∃ (k : Nat) (x : T7), j = k ∧ k < ts.length ∧ ts[k]? = some x ∧ x.s = 3 ∧ x.wt = wt ∧ x.on = on := by
 unfold waitersM at h
 rw [(lineM_perm _ _ _).mem_iff] at h
 obtain ⟨k, hk, rfl⟩ := List.mem_map.1 h
 obtain ⟨h1, h2⟩ := pick_mem hk
 refine ⟨k, ts[k], rfl, h1, List.getElem?_eq_getElem h1, ?_⟩
 have e : ts.getD k default = ts[k] := by rw [List.getD_eq_getElem?_getD, List.getElem?_eq_getElem h1]; rfl
 simp only [waitQ, e, Bool.and_eq_true, beq_iff_eq] at h2
 exact h2
theorem wakeAllT_snoc (pre : List Int) (j : Int) (ts : List T7) (tn v : Int) : wakeAllT (pre ++ [j]) ts tn v = (wakeAllT pre ts tn v).set j.toNat (wakeT (taskAt (wakeAllT pre ts tn v) j) (tn + pre.length) v) := by
 induction pre generalizing ts tn with
 | nil => simp [wakeAllT]
 | cons i r ih =>
  simp only [List.cons_append, wakeAllT, ih, List.length_cons]
  rw [show tn + 1 + (r.length : Int) = tn + ((r.length + 1 : Nat) : Int) by omega]
theorem wakeAllT_other (pre : List Int) (ts : List T7) (tn v : Int) (k : Nat) (h : (k : Int) ∉ pre) (hp : ∀ j ∈ pre, 0 ≤ j) : (wakeAllT pre ts tn v)[k]? = ts[k]? := by
 induction pre generalizing ts tn with
 | nil => rfl
 | cons i r ih =>
  simp only [wakeAllT]
  rw [ih _ _ (fun hm => h (List.mem_cons_of_mem _ hm)) (fun j hj => hp j (List.mem_cons_of_mem _ hj))]
  have h0 := hp i (List.mem_cons_self ..)
  exact List.getElem?_set_ne (by intro e; apply h; rw [← e]; simp [Int.toNat_of_nonneg h0])
/-- Those who wait can all be woken. -/
def okAll (l : List Int) (v tn : Int) : Bool := l.isEmpty || (btw v 0 9999 && decide (tn + l.length ≤ 1000000))
theorem sorted_of (qs : List P3) : ∃ out : List P3, out.Perm qs ∧ out.Pairwise leP := by
 refine ⟨qs.mergeSort (fun a b => !aheadP b a), List.mergeSort_perm _ _, ?_⟩
 have := List.pairwise_mergeSort (le := fun a b => !aheadP b a) (fun a b c h k => by
  have h1 : leP a b := by simpa [leP] using h
  have h2 : leP b c := by simpa [leP] using k
  simpa [leP] using h1.trans h2) (fun a b => by
  rcases hb : aheadP b a with _ | _
  ·simp
  ·have := leP.of_ahead hb
   unfold leP at this
   simp [this]) qs
 exact this.imp (fun h => by simpa [leP] using h)
def lineLen (w : World) (lb : Nat) : Nat :=
 match w.cell? ⟨lb, 0, none⟩ with
 | some (.slice _ n _) => n
 | _ => 0
theorem lineLen_of {w : World} {lb n c : Nat} {A : Option Addr} (h : w.cell? ⟨lb, 0, none⟩ = some (.slice A n c)) : lineLen w lb = n := by simp [lineLen, h]
theorem fps_line {lb : Nat} {A : Option Addr} {c : Nat} {ps qs : List P3} {g : Nat} : g ∈ fps (lineL lb A c ps) ↔ g ∈ fps (lineL lb A c qs) := by
 cases A <;> exact Iff.rfl
theorem LineIn.above {B : Nat} {w W : World} {lb : Nat} {A : Option Addr} {c : Nat} {ps : List P3} (h : LineIn w lb A c ps) (hB : ∀ g ∈ fps (lineL lb A c ps), B ≤ g) (k : Above B w W) : LineIn W lb A c ps :=
 ⟨rfl, rfl, rfl, Nat.le_refl _, fun _ _ _ => rfl, fun r hr => (h.here r hr).keep fun g hg => k.same g (hB g (mem_fps.2 ⟨r, hr, hg⟩)) ((h.here r hr).lt hg), fun r hr g hg => .inl (mem_fps.2 ⟨r, hr, hg⟩), h.apart⟩
theorem Sep.belowB {S : List Nat} {w W : World} {rs : List Res} {B : Nat} (h : Sep S w W rs) (hS : ∀ g ∈ S, B ≤ g) (hB : B ≤ w.heap.size) : Below B w W :=
 ⟨h.os, h.tape, h.output, h.size, fun b hb => h.block b (Nat.lt_of_lt_of_le hb hB) (fun hm => by have := hS b hm; omega)⟩
theorem Sep.abide {S : List Nat} {w A C : World} {rs : List Res} {B : Nat} (h : Sep S w A rs) (hr : ∀ g ∈ fps rs, g < B) (hw : w.heap.size ≤ B) (k : Below B A C) : Sep S w C rs :=
 ⟨k.os.trans h.os, k.tape.trans h.tape, k.output.trans h.output, Nat.le_trans h.size k.size, fun b hb hn => (k.block b (by omega)).trans (h.block b hb hn), fun r hm => (h.here r hm).keep fun g hg => k.block g (hr g (mem_fps.2 ⟨r, hm, hg⟩)), h.own, h.apart⟩
set_option maxHeartbeats 1000000 in
theorem waiters_any (g : Nat) (wk on2 : Int) (w : World) :
 Calls Try.prog 73 #[.pointer (some ⟨g, 0, none⟩), .int .i64 wk, .int .i64 on2] w fun r w' => r = .returned (.func (.func 85) #[] #[.pointer (some ⟨w.heap.size, 0, none⟩), .pointer (some ⟨w.heap.size + 1, 0, none⟩), .pointer (some ⟨w.heap.size + 2, 0, none⟩)]) ∧ w' = ((w.alloc (.cells #[.pointer (some ⟨g, 0, none⟩)] 82)).alloc (.cells #[.int .i64 wk] 2)).alloc (.cells #[.int .i64 on2] 2) := by
 have hmf : ∀ (fn : Fn) (first cap : Array Value) (w : World), (Instr.makeFunc fn first cap).run Try.prog w = .ok (.func fn first cap) w := fun _ _ _ _ => rfl
 go_enter Try.func73, Try.ntmps73
 go_wp2_with fail
 go_ret
 exact ⟨rfl, rfl⟩
set_option maxHeartbeats 2000000 in
theorem waiters_seq (ts : List T7) (xb : Nat) (A0 : Option Addr) (c0 : Nat) (wk on2 : Int) (b3 b4 b5 : Nat) (w : World) (hlen : ts.length ≤ 1048576) (hx : w.cell? ⟨xb, 0, none⟩ = some (.slice A0 ts.length c0)) (h : Row w A0 (tcells ts))
 (h3 : w.cell? ⟨b3, 0, none⟩ = some (.pointer (some ⟨xb, 0, none⟩))) (h4 : w.cell? ⟨b4, 0, none⟩ = some (.int .i64 wk)) (h5 : w.cell? ⟨b5, 0, none⟩ = some (.int .i64 on2)) :
 SeqS Fence.wide 2 Try.prog 85 #[.pointer (some ⟨b3, 0, none⟩), .pointer (some ⟨b4, 0, none⟩), .pointer (some ⟨b5, 0, none⟩)] (fun j : Int => #[Value.int .i64 j]) (waitersM ts wk on2) w := by
 intro l J Jx W hW hJ hJx hY h0
 have hx1 : W.cell? ⟨xb, 0, none⟩ = some (.slice A0 ts.length c0) := (hW.cell (p := ⟨xb, 0, none⟩) (World.block_lt_of_cell? w _ hx)).trans hx
 have g3 : W.cell? ⟨b3, 0, none⟩ = some (.pointer (some ⟨xb, 0, none⟩)) := (hW.cell (p := ⟨b3, 0, none⟩) (World.block_lt_of_cell? w _ h3)).trans h3
 have g4 : W.cell? ⟨b4, 0, none⟩ = some (.int .i64 wk) := (hW.cell (p := ⟨b4, 0, none⟩) (World.block_lt_of_cell? w _ h4)).trans h4
 have g5 : W.cell? ⟨b5, 0, none⟩ = some (.int .i64 on2) := (hW.cell (p := ⟨b5, 0, none⟩) (World.block_lt_of_cell? w _ h5)).trans h5
 have hP := hide (waitersOn_p ts xb A0 c0 wk on2 W hlen hx1 (h.below hW))
 have HY := hide (⟨hY, hJ, hJx, h0⟩ : _ ∧ _ ∧ _ ∧ _)
 clear h hx h3 h4 h5 hx1 hY hJ hJx h0
 refine callsIn_of_wp Try.func85 rfl trivial ?_ rfl
 simp only [Try.ntmps85, List.size_toArray, List.length_cons, List.length_nil, Nat.reduceAdd, Nat.reduceSub, Array.replicate_succ, Array.replicate_zero, List.push_toArray, List.append_toArray, List.nil_append, List.cons_append]
 gi_wp2_with (refine ⟨trivial, ?_⟩; gi_at_call 86; refine (callsIn_wide.2 hP.out).mono ?_; rintro r W1 ⟨lb, A, c, ps, rfl, hl, hh, hp, M⟩)
 have HB : Hid (∀ qs, ∀ g ∈ fps (lineL lb A c qs), W.heap.size ≤ g) := hide (fun qs g hg => by
  obtain ⟨r, hr, hrg⟩ := mem_fps.1 (fps_line.1 hg : g ∈ fps (lineL lb A c ps))
  rcases M.own r hr g hrg with h1 | h1
  ·simp at h1
  ·exact h1)
 have HI := hide (⟨hl, hh, hp, LineIn.of (rs := []) (by simpa using M), HY.out.2.1 _ _ _ HY.out.2.2.2 M.below⟩ : _ ∧ _ ∧ _ ∧ LineIn W1 lb A c ps ∧ J [] W1)
 clear hl hh hp M hP
 gi_loopw [] (fun wr => ∃ (out qs : List P3), Hid ((out ++ qs).Perm ps ∧ out.Pairwise leP ∧ (∀ x ∈ out, ∀ y ∈ qs, leP x y) ∧ HeapL qs) ∧ Hid (LineIn wr lb A c qs ∧ J (out.map P3.i) wr)) (fun wr => lineLen wr lb)
 case atStart => exact ⟨[], ps, hide ⟨List.Perm.refl _, List.Pairwise.nil, by simp, HI.out.2.1⟩, hide ⟨HI.out.2.2.2.1, HI.out.2.2.2.2⟩⟩
 case round =>
  obtain ⟨out, qs, HP, HL⟩ := hrel
  have hlen2 : out.length + qs.length = ps.length := by have := HP.out.1.length_eq; simpa using this
  have hql : qs.length ≤ 1048576 := by have := HI.out.1; omega
  have qL : wr.cell? ⟨lb, 0, none⟩ = some (.slice A qs.length c) := Sep.cell HL.out.1 0 0 rfl
  have tL : lb < wr.heap.size := Sep.lt HL.out.1 0 rfl
  have HS : Hid (W.heap.size ≤ wr.heap.size) := hide (by have := HB.out qs lb (mem_fps.2 ⟨_, List.mem_cons_self .., rfl⟩); omega)
  by_cases h0 : qs = []
  ·subst h0
   have qL2 : wr.cell? ⟨lb, 0, none⟩ = some (.slice A 0 c) := qL
   clear qL hlen2
   gi_wp2_with (refine ⟨trivial, ?_⟩; gi_at_call 87; refine (callsIn_wide.2 (len_any A 0 c _)).mono ?_; rintro r W2 ⟨rfl, rfl⟩)
   have hp2 := HP.out.1
   rw [List.append_nil] at hp2
   have he := wait_eq HP.out.2.1 (hp2.trans HI.out.2.2.1)
   have hJ := HL.out.2
   rw [he] at hJ
   go_end0
   exact ⟨⟨_, rfl⟩, .inl hJ⟩
  ·have hpos : 0 < qs.length := List.length_pos_iff.2 h0
   have hpi : (0 : Int) < (qs.length : Int) := by omega
   clear h0
   have hN := next_any qs lb A c hpos hql wr HP.out.2.2.2 HL.out.1
   have HR : Hid (∀ W3 q2, (at3 qs 0 :: q2).Perm qs → HeapL q2 → Sep (fps (lineL lb A c qs)) wr W3 (lineL lb A c q2) → YieldAt Fence.wide (2 - 1) Try.prog l #[.int .i64 (at3 qs 0).i] W3 fun e W' => (e = .returned (.bool true) ∧ (∃ out2, Hid ((out2 ++ q2).Perm ps ∧ out2.Pairwise leP ∧ (∀ x ∈ out2, ∀ y ∈ q2, leP x y) ∧ HeapL q2) ∧ Hid (LineIn W' lb A c q2 ∧ J (out2.map P3.i) W')) ∧ lineLen W' lb < lineLen wr lb) ∨ (e = .returned (.bool false) ∧ ∃ pre, pre <+: waitersM ts wk on2 ∧ Jx pre W')) := hide (fun W3 q2 hp2 hh2 M2 => by
    have hyq : at3 qs 0 ∈ qs := hp2.subset (List.mem_cons_self ..)
    have hq2 : ∀ z ∈ q2, z ∈ qs := fun z hz => hp2.subset (List.mem_cons_of_mem _ hz)
    have hperm : ((out ++ [at3 qs 0]) ++ q2).Perm ps := by
     rw [List.append_assoc]
     exact (List.Perm.append_left out hp2).trans HP.out.1
    have hpw : (out ++ [at3 qs 0]).Pairwise leP := List.pairwise_append.2 ⟨HP.out.2.1, by simp, fun a ha b hb => by simp at hb; subst hb; exact HP.out.2.2.1 a ha _ hyq⟩
    have hle : ∀ x ∈ out ++ [at3 qs 0], ∀ y ∈ q2, leP x y := fun a ha z hz => by
     rcases List.mem_append.1 ha with ha | ha
     ·exact HP.out.2.2.1 a ha z (hq2 z hz)
     ·simp at ha
      subst ha
      exact HP.out.2.2.2.first z (hq2 z hz)
    have hpre : out.map P3.i ++ [(at3 qs 0).i] <+: waitersM ts wk on2 := by
     obtain ⟨srt, hs1, hs2⟩ := sorted_of q2
     have he := wait_eq (ts := ts) (wt := wk) (on := on2) (out := (out ++ [at3 qs 0]) ++ srt) (List.pairwise_append.2 ⟨hpw, hs2, fun a ha b hb => hle a ha b (hs1.subset hb)⟩) (((List.Perm.append_left _ hs1).trans hperm).trans HI.out.2.2.1)
     rw [← he]
     exact ⟨srt.map P3.i, by simp⟩
    have hB3 : Below W.heap.size wr W3 := M2.belowB (HB.out qs) HS.out
    obtain ⟨fn, tmps, assign, body, hy, hR⟩ := HY.out.1 _ _ W3 (HY.out.2.1 _ _ _ HL.out.2 hB3) hpre
    refine ⟨fn, tmps, assign, body, hy, hR.mono ?_⟩
    rintro e W4 (⟨rfl, hJ4, hk4⟩ | ⟨rfl, hJ4⟩)
    ·have hL4 : LineIn W4 lb A c q2 := LineIn.above (LineIn.of (rs := []) (by simpa using M2)) (HB.out q2) hk4
     refine .inl ⟨rfl, ⟨out ++ [at3 qs 0], hide ⟨hperm, hpw, hle, hh2⟩, hide ⟨hL4, by rw [List.map_append]; exact hJ4⟩⟩, ?_⟩
     rw [lineLen_of (Sep.cell hL4 0 0 rfl), lineLen_of (Sep.cell HL.out.1 0 0 rfl)]
     have := hp2.length_eq
     simp at this
     omega
    ·exact .inr ⟨rfl, _, hpre, hJ4⟩)
   generalize (at3 qs 0).i = yi at hN HR
   generalize at3 qs 0 = y at hN HR
   gi_wp2_with (first | (refine ⟨trivial, ?_⟩; gi_at_call 87; refine (callsIn_wide.2 (len_any A qs.length c _)).mono ?_; rintro r W2 ⟨rfl, rfl⟩) | (refine ⟨trivial, ?_⟩; gi_at_call 88; refine (callsIn_wide.2 hN).mono ?_; rintro r W3 ⟨rfl, q2, hp2, hh2, M2⟩; obtain ⟨fn, tmps, assign, body, hy, hR⟩ := HR.out W3 q2 hp2 hh2 M2; clear hp2 hh2 M2))
   refine hR.mono ?_
   rintro e W4 (⟨rfl, ⟨out2, HP2, HL2⟩, hm⟩ | ⟨rfl, hx4⟩)
   ·have Hm := hide hm
    clear hm
    gi_wp2_with fail
    go_roundw
    case rel => exact ⟨out2, q2, HP2, HL2⟩
    case measure => exact Hm.out
   ·have HX := hide hx4
    clear hx4
    gi_wp2_with fail
    refine bodyPost_ret (results_none rfl _ _ _) rfl ?_
    exact ⟨⟨_, rfl⟩, .inr HX.out⟩
theorem above_set {B : Nat} (W : World) (b j : Nat) (u : Value) (hb : b < B) : Above B W (W.setCell ⟨b, j, none⟩ u) :=
 ⟨by simp [World.setCell], fun k hk _ => Below.heap_setCell W _ u k (by simp only; omega)⟩
theorem Sep.allLt {S : List Nat} {w W : World} {rs : List Res} (h : Sep S w W rs) : ∀ g ∈ fps rs, g < W.heap.size := fun g hg => by
 obtain ⟨r, hr, hrg⟩ := mem_fps.1 hg
 exact (h.here r hr).lt hrg
set_option maxHeartbeats 2000000 in
theorem wakeAll_any (ts : List T7) (A0 A1 A2 : Option Addr) (c0 n1 c1 n2 c2 : Nat) (tn : Int) (st : Bool) (g : Nat) (wk on2 v : Int) (w : World) (hlen : ts.length ≤ 1048576) (t0 : 0 ≤ tn) (t1 : tn ≤ 1000000) (h : Sep (fps [.blk g 33 #[.slice A0 ts.length c0, .slice A1 n1 c1, .slice A2 n2 c2, .int .i64 tn, .bool st], rT ts.length A0 c0 ts]) w w [.blk g 33 #[.slice A0 ts.length c0, .slice A1 n1 c1, .slice A2 n2 c2, .int .i64 tn, .bool st], rT ts.length A0 c0 ts]) :
 Calls Try.prog 47 #[.pointer (some ⟨g, 0, none⟩), .int .i64 wk, .int .i64 on2, .int .i64 v] w fun r w' => ∃ (us : List T7) (tn' cnt : Int), r = .returned (.int .i64 cnt) ∧ us.length = ts.length ∧ Sep (fps [.blk g 33 #[.slice A0 ts.length c0, .slice A1 n1 c1, .slice A2 n2 c2, .int .i64 tn, .bool st], rT ts.length A0 c0 ts]) w w' [.blk g 33 #[.slice A0 ts.length c0, .slice A1 n1 c1, .slice A2 n2 c2, .int .i64 tn', .bool st], rT ts.length A0 c0 us] ∧ ((okAll (waitersM ts wk on2) v tn = true ∧ cnt = ((waitersM ts wk on2).length : Int) ∧ us = wakeAllT (waitersM ts wk on2) ts tn v ∧ tn' = tn + ((waitersM ts wk on2).length : Int)) ∨ (okAll (waitersM ts wk on2) v tn = false ∧ cnt = -1)) := by
 obtain ⟨S, hS⟩ : ∃ S, S = fps [.blk g 33 #[.slice A0 ts.length c0, .slice A1 n1 c1, .slice A2 n2 c2, .int .i64 tn, .bool st], rT ts.length A0 c0 ts] := ⟨_, rfl⟩
 rw [← hS] at h ⊢
 clear hS
 have H := hide h
 clear h
 have hSeq : Hid (∀ (y3 y4 y5 : Nat) (W : World), W.cell? ⟨g, 0, none⟩ = some (.slice A0 ts.length c0) → Row W A0 (tcells ts) → W.cell? ⟨y3, 0, none⟩ = some (.pointer (some ⟨g, 0, none⟩)) → W.cell? ⟨y4, 0, none⟩ = some (.int .i64 wk) → W.cell? ⟨y5, 0, none⟩ = some (.int .i64 on2) → SeqS Fence.wide 2 Try.prog 85 #[.pointer (some ⟨y3, 0, none⟩), .pointer (some ⟨y4, 0, none⟩), .pointer (some ⟨y5, 0, none⟩)] (fun j : Int => #[Value.int .i64 j]) (waitersM ts wk on2) W) := hide (fun y3 y4 y5 W h1 h2 h3 h4 h5 => waiters_seq ts g A0 c0 wk on2 y3 y4 y5 W hlen h1 h2 h3 h4 h5)
 have HL := hide (⟨waitersM_nodup ts wk on2, fun j => waitersM_mem (ts := ts) (wt := wk) (on := on2) (j := j)⟩ : _ ∧ _)
 generalize waitersM ts wk on2 = L at hSeq HL ⊢
 refine (callsIn_wide (n := 3)).1 ?_
 refine callsIn_of_wp_marks Try.func47 rfl trivial ?_ rfl
 simp only [Try.ntmps47, List.size_toArray, List.length_cons, List.length_nil, Nat.reduceAdd, Nat.reduceSub, Array.replicate_succ, Array.replicate_zero, List.push_toArray, List.append_toArray, List.nil_append, List.cons_append]
 gi_wp2_with fail
 have M := ((((H.out.alloc 82 #[.pointer (some ⟨g, 0, none⟩)] w.heap.size rfl).alloc 2 #[.int .i64 v] (w.heap.size + 1) (by simp)).alloc 2 #[.int .i64 0] (w.heap.size + 1 + 1) (by simp)).alloc 2 #[.int .i64 0] (w.heap.size + 1 + 1 + 1) (by simp))
 clear H
 generalize (((w.alloc (.cells #[.pointer (some ⟨g, 0, none⟩)] 82)).alloc (.cells #[.int .i64 v] 2)).alloc (.cells #[.int .i64 0] 2)).alloc (.cells #[.int .i64 0] 2) = W4 at M ⊢
 obtain ⟨bx, hbx⟩ : ∃ bx, bx = w.heap.size := ⟨_, rfl⟩
 obtain ⟨b7, hb7⟩ : ∃ b7, b7 = w.heap.size + 1 := ⟨_, rfl⟩
 obtain ⟨b8, hb8⟩ : ∃ b8, b8 = w.heap.size + 1 + 1 := ⟨_, rfl⟩
 obtain ⟨b9, hb9⟩ : ∃ b9, b9 = w.heap.size + 1 + 1 + 1 := ⟨_, rfl⟩
 rw [← hb9, ← hb8, ← hb7, ← hbx] at M ⊢
 clear hb9 hb8 hb7 hbx
 refine ⟨trivial, ?_⟩
 refine (callsIn_wide.2 (waiters_any g wk on2 W4)).mono ?_
 rintro r W7 ⟨rfl, hW7⟩
 have M7 := ((M.alloc 82 #[.pointer (some ⟨g, 0, none⟩)] W4.heap.size rfl).alloc 2 #[.int .i64 wk] (W4.heap.size + 1) (by simp)).alloc 2 #[.int .i64 on2] (W4.heap.size + 2) (by simp)
 rw [← hW7] at M7
 clear M hW7
 obtain ⟨y3, hy3⟩ : ∃ y3, y3 = W4.heap.size := ⟨_, rfl⟩
 obtain ⟨y4, hy4⟩ : ∃ y4, y4 = W4.heap.size + 1 := ⟨_, rfl⟩
 obtain ⟨y5, hy5⟩ : ∃ y5, y5 = W4.heap.size + 2 := ⟨_, rfl⟩
 rw [← hy5, ← hy4, ← hy3] at M7 ⊢
 clear hy5 hy4 hy3
 have hseq := hSeq.out y3 y4 y5 W7 (M7.cell 7 0 rfl) (M7.rowS 8 rfl) (M7.cell 2 0 rfl) (M7.cell 1 0 rfl) (M7.cell 0 0 rfl)
 have M := M7.drop 3
 clear M7
 replace M : Sep S w W7 [.blk b9 2 #[.int .i64 0], .blk b8 2 #[.int .i64 0], .blk b7 2 #[.int .i64 v], .blk bx 82 #[.pointer (some ⟨g, 0, none⟩)], .blk g 33 #[.slice A0 ts.length c0, .slice A1 n1 c1, .slice A2 n2 c2, .int .i64 tn, .bool st], rT ts.length A0 c0 ts] := M
 have hlt := hide M.allLt
 have hsz : w.heap.size ≤ W7.heap.size := M.size
 have HSEQ := hide hseq
 have HM := hide M
 clear hseq M
 gi_wp2_with fail
 refine wpIn_range_s (F := Fence.wide) (n := 3) rfl (by decide) (enc := fun j : Int => #[Value.int .i64 j]) (gf := 85) (lb := #[.pointer (some ⟨y3, 0, none⟩), .pointer (some ⟨y4, 0, none⟩), .pointer (some ⟨y5, 0, none⟩)]) rfl trivial (Go.Proofs.enters_of Try.func85 (by kernel_rfl) rfl) HSEQ.out (Below.refl _ _) (fun _ => rfl)
  (fun pre W => Hid (pre = [] ∨ (btw v 0 9999 = true ∧ tn + pre.length ≤ 1000000)) ∧ Hid (Sep S w W [.blk b9 2 #[.int .i64 pre.length], .blk b8 2 #[.int .i64 0], .blk b7 2 #[.int .i64 v], .blk bx 82 #[.pointer (some ⟨g, 0, none⟩)], .blk g 33 #[.slice A0 ts.length c0, .slice A1 n1 c1, .slice A2 n2 c2, .int .i64 (tn + pre.length), .bool st], rT ts.length A0 c0 (wakeAllT pre ts tn v)]))
  (fun _ _ W => okAll L v tn = false ∧ ∃ (us : List T7) (tn' cn : Int), us.length = ts.length ∧ Sep S w W [.blk b9 2 #[.int .i64 cn], .blk b8 2 #[.int .i64 (-1)], .blk b7 2 #[.int .i64 v], .blk bx 82 #[.pointer (some ⟨g, 0, none⟩)], .blk g 33 #[.slice A0 ts.length c0, .slice A1 n1 c1, .slice A2 n2 c2, .int .i64 tn', .bool st], rT ts.length A0 c0 us])
  (fun s A C hs hb => ⟨hs.1, hide (hs.2.out.abide hlt.out hsz hb)⟩)
  (fun _ s A C hs hb => by
   obtain ⟨h1, us, tn', cn, h2, h3⟩ := hs
   exact ⟨h1, us, tn', cn, h2, h3.abide hlt.out hsz hb⟩)
  ⟨hide (.inl rfl), hide (by simpa [wakeAllT] using HM.out)⟩
  (fun x => { tmps := #[.pointer (some ⟨g, 0, none⟩), .int .i64 wk, .int .i64 on2, .int .i64 v, .pointer (some ⟨bx, 0, none⟩), undef, undef, .pointer (some ⟨b7, 0, none⟩), .pointer (some ⟨b8, 0, none⟩), .pointer (some ⟨b9, 0, none⟩), .int .i64 x, .pointer (some ⟨g, 0, none⟩), .int .i64 wk, .int .i64 on2, .func (.func 85) #[] #[.pointer (some ⟨y3, 0, none⟩), .pointer (some ⟨y4, 0, none⟩), .pointer (some ⟨y5, 0, none⟩)], .int .i64 x, undef, undef, undef, undef, undef, undef, undef, undef], defers := [] }) ?assign ?body ?done ?stop
 case assign =>
  intro l x W K hK
  gi_wp2_with fail
  exact hK
 case body =>
  rintro l pre x W hszW ⟨HP, HM2⟩ hpre
  have hxL : x ∈ L := hpre.subset (by simp)
  obtain ⟨k, y, rfl, hkl, hky, hys, _, _⟩ := HL.out.2 x hxL
  have hpreL : pre <+: L := (List.prefix_append pre [(k : Int)]).trans hpre
  have hnot : (k : Int) ∉ pre := fun hm => by
   have hnd := HL.out.1.sublist hpre.sublist
   exact (List.nodup_append.1 hnd).2.2 _ hm _ (by simp) rfl
  have hnn : ∀ j ∈ pre, 0 ≤ j := fun j hj => by
   obtain ⟨k2, _, rfl, _⟩ := HL.out.2 j (hpreL.subset hj)
   omega
  have hlt2 : pre.length < L.length := by
   have := hpre.length_le
   simp at this; omega
  have hus : (wakeAllT pre ts tn v)[k]? = some y := by rw [wakeAllT_other _ _ _ _ _ hnot hnn]; exact hky
  have hul : (wakeAllT pre ts tn v).length = ts.length := wakeAllT_length _ _ _ _
  have hsn := wakeAllT_snoc pre (k : Int) ts tn v
  rw [show ((k : Int)).toNat = k from rfl, taskAt_of hus] at hsn
  obtain ⟨us, hus2⟩ : ∃ us, us = wakeAllT pre ts tn v := ⟨_, rfl⟩
  rw [← hus2] at HM2 hus hul hsn
  clear hus2
  obtain ⟨s, lv, o, wt, on, v0, t⟩ := y
  simp only at hys
  subst hys
  have HC := hide (⟨HP.out, hus, hul, hsn, hpreL, hlt2, hkl, hxL⟩ : _ ∧ _ ∧ _ ∧ _ ∧ _ ∧ _ ∧ _ ∧ _)
  clear hus hsn hpreL hlt2 hnot hnn hky hkl HP hxL
  obtain ⟨t9, q9, f9⟩ := HM2.out.f1 0 rfl
  obtain ⟨t8, q8, f8⟩ := HM2.out.f1 1 rfl
  obtain ⟨t7, q7, f7⟩ := HM2.out.f1 2 rfl
  obtain ⟨tx, qx, fx⟩ := HM2.out.f1 3 rfl
  have hlt9 : b9 < W7.heap.size := hlt.out b9 (mem_fps.2 ⟨_, List.mem_cons_self .., rfl⟩)
  have hlt8 : b8 < W7.heap.size := hlt.out b8 (mem_fps.2 ⟨_, List.mem_cons_of_mem _ (List.mem_cons_self ..), rfl⟩)
  gi_wp2_with fail
  refine ⟨trivial, ?_⟩
  have MF : Sep S w W [.blk g 33 #[.slice A0 ts.length c0, .slice A1 n1 c1, .slice A2 n2 c2, .int .i64 (tn + pre.length), .bool st], rT ts.length A0 c0 us, .blk b9 2 #[.int .i64 pre.length], .blk b8 2 #[.int .i64 0], .blk b7 2 #[.int .i64 v], .blk bx 82 #[.pointer (some ⟨g, 0, none⟩)]] := HM2.out.perm (List.perm_append_comm (l₁ := [_, _, _, _]) (l₂ := [_, _]))
  clear HM2 q9 f9 q8 f8 q7 f7 qx fx t9 t8 t7 tx
  by_cases hc : btw v 0 9999 = true ∧ tn + pre.length < 1000000
  ·have hcan : canB us k v (tn + pre.length) = true := by
    have h1 : taskAt us k = _ := taskAt_of HC.out.2.1
    simp only [canB, isInB, h1, hc.1, hul]
    have h2 := HC.out.2.2.2.2.2.2.1
    simp [btw]
    omega
   have hw := wake_yes us A0 A1 A2 c0 n1 c1 n2 c2 (tn + pre.length) st g k v 3 lv o wt on v0 t W (by omega) (by omega) HC.out.2.1 (by rw [hul]; exact Sep.same (ps := [.blk g 33 #[.slice A0 ts.length c0, .slice A1 n1 c1, .slice A2 n2 c2, .int .i64 (tn + pre.length), .bool st], rT ts.length A0 c0 us]) MF (Below.refl _ _)) hcan
   rw [hul, ← HC.out.2.2.2.1] at hw
   refine (CallsIn.inRound l (callsIn_wide.2 hw)).mono ?_
   clear hw hcan
   rintro r W2 ⟨rfl, M2⟩
   have hPT : ∀ g' ∈ fps [.blk g 33 #[.slice A0 ts.length c0, .slice A1 n1 c1, .slice A2 n2 c2, .int .i64 (tn + pre.length), .bool st], rT ts.length A0 c0 us], g' < W7.heap.size := by
    intro g' hg'
    obtain ⟨r, hr, hrg⟩ := mem_fps.1 hg'
    simp only [List.mem_cons, List.not_mem_nil, or_false] at hr
    rcases hr with rfl | rfl
    ·exact hlt.out g' (mem_fps.2 ⟨.blk g 33 #[.slice A0 ts.length c0, .slice A1 n1 c1, .slice A2 n2 c2, .int .i64 tn, .bool st], by simp, hrg⟩)
    ·exact hlt.out g' (mem_fps.2 ⟨rT ts.length A0 c0 ts, by simp, hrg⟩)
   have hA : Above W7.heap.size W W2 := M2.above hPT
   clear hPT
   have M3 := (Sep.comp (ps := [.blk g 33 #[.slice A0 ts.length c0, .slice A1 n1 c1, .slice A2 n2 c2, .int .i64 (tn + pre.length), .bool st], rT ts.length A0 c0 us]) (rs := [.blk b9 2 #[.int .i64 pre.length], .blk b8 2 #[.int .i64 0], .blk b7 2 #[.int .i64 v], .blk bx 82 #[.pointer (some ⟨g, 0, none⟩)]]) MF M2).perm (List.perm_append_comm (l₁ := [_, _]) (l₂ := [_, _, _, _]))
   clear M2 MF
   obtain ⟨t9, q9, f9⟩ := Sep.f1 M3 0 rfl
   gi_wp2_with fail
   refine ⟨hA.trans (above_set _ _ _ _ hlt9), hide (.inr ⟨hc.1, ?_⟩), hide ?_⟩
   ·rw [List.length_append]; simp only [List.length_cons, List.length_nil]; omega
   ·have M4 := M3.set 0 rfl 0 (.int .i64 (pre.length + 1))
    rw [show ((pre ++ [(k : Int)]).length : Int) = pre.length + 1 by simp, show tn + ((pre.length : Int) + 1) = tn + pre.length + 1 by omega]
    exact M4
  ·have hno : okAll L v tn = false := by
    have h2 := HC.out.2.2.2.2.2.1
    have hne : L.isEmpty = false := by
     cases L with
     | nil => simp at h2
     | cons a r => rfl
    rcases hb : btw v 0 9999 with _ | _
    ·simp only [okAll, hb, hne, Bool.false_and, Bool.or_false]
    ·have h3 : ¬ tn + pre.length < 1000000 := fun h => hc ⟨hb, h⟩
     have h4 : ¬ tn + L.length ≤ 1000000 := by omega
     simp only [okAll, hb, hne, Bool.true_and, Bool.false_or, decide_eq_false h4]
   have hcan : canB us k v (tn + pre.length) = false := by
    rw [Bool.eq_false_iff]
    intro h1
    simp only [canB, Bool.and_eq_true, decide_eq_true_eq] at h1
    exact hc h1.2
   have hw := wake_no us A0 A1 A2 c0 n1 c1 n2 c2 (tn + pre.length) st g k v W (by omega) (by rw [hul]; exact MF.blk 0 rfl) (MF.rowS 1 rfl) hcan
   refine (CallsIn.inRound l (callsIn_wide.2 hw)).mono ?_
   clear hw hcan
   rintro r W2 ⟨rfl, g1⟩
   have hA : Above W7.heap.size W W2 := ⟨g1.size, fun k _ hk => g1.block k hk⟩
   have M3 := (MF.call g1).perm (List.perm_append_comm (l₁ := [_, _]) (l₂ := [_, _, _, _]))
   clear g1 MF
   obtain ⟨t8, q8, f8⟩ := Sep.f1 M3 1 rfl
   gi_wp2_with fail
   exact ⟨hA.trans (above_set _ _ _ _ hlt8), hno, us, tn + pre.length, pre.length, hul, M3.set 1 rfl 0 _⟩
 case done =>
  rintro D W hD ⟨HP, HM2⟩ hK
  obtain ⟨t9, q9, f9⟩ := HM2.out.f1 0 rfl
  obtain ⟨t8, q8, f8⟩ := HM2.out.f1 1 rfl
  have hlt8 : b8 < W7.heap.size := hlt.out b8 (mem_fps.2 ⟨_, List.mem_cons_of_mem _ (List.mem_cons_self ..), rfl⟩)
  have hDlt : D < W.heap.size := (Array.getElem?_eq_some_iff.1 hK).1
  have HK := hide hK
  clear hK
  gi_wp2_with fail
  have hK2 : (W.setCell ⟨b8, 0, none⟩ (.int .i64 L.length)).heap[D]? = some (.deferred (some [])) := (Below.heap_setCell W _ _ D (by simp only; omega)).trans HK.out
  have M2 := (HM2.out.set 1 rfl 0 (.int .i64 L.length)).abide hlt.out hsz (below_put _ D (.deferred none) hD (by simp [World.setCell]; omega))
  refine ⟨by simp, .inl ⟨_, _, rfl, run_takeDeferred hK2, ?_⟩⟩
  have q8' := M2.cell 1 0 rfl
  have hok : okAll L v tn = true := by
   rcases HP.out with h1 | h1
   ·simp [okAll, h1]
   ·simp [okAll, h1.1, h1.2]
  exact ⟨.int .i64 L.length, by simp [results, Try.results47, go_sem, q8'], _, _, _, rfl, wakeAllT_length _ _ _ _, M2.drop 4, .inl ⟨hok, rfl, rfl, rfl⟩⟩
 case stop =>
  rintro D pre W hD hpre ⟨hno, us, tn', cn, hul, M⟩ hK
  have hDlt : D < W.heap.size := (Array.getElem?_eq_some_iff.1 hK).1
  have M2 := M.abide hlt.out hsz (below_put _ D (.deferred none) hD (by omega))
  have HM2 := hide M2
  have HK := hide hK
  clear M M2 hK
  gi_wp2_with fail
  refine ⟨by simp, .inl ⟨_, _, rfl, run_takeDeferred HK.out, ?_⟩⟩
  have q8' := HM2.out.cell 1 0 rfl
  exact ⟨.int .i64 (-1), by simp [results, Try.results47, go_sem, q8'], us, tn', -1, rfl, hul, HM2.out.drop 4, .inr ⟨hno, rfl⟩⟩
theorem woken_told (a b c d e : Int) (ts : List T7) (ks : List Int) (fs : List F2) (tn : Int) (st : Bool) (id : Int) (v0 : Int) (hl : ts.length + ks.length + fs.length ≤ 1048576) :
 ∃ (us : List T7) (ks2 : List Int) (fs2 : List F2) (tn2 : Int) (st2 z : Bool), us.length + ks2.length + fs2.length ≤ 1048576 ∧
 ((z = true → ∃ (k : Nat) (x : T7), id = k ∧ ts[k]? = some x ∧ x.s = 3 ∧ us = ts.set k (wakeT x tn v0) ∧ ks2 = ks ∧ fs2 = fs ∧ tn2 = tn + 1 ∧ st2 = st ∧ poolB a b c d e ts ks fs tn = true ∧ poolB a b c d e us ks2 fs2 tn2 = true) ∧ (z = false → poolB a b c d e ts ks fs tn = true → us = ts ∧ ks2 = ks ∧ fs2 = fs ∧ tn2 = tn ∧ st2 = st)) ∧
 Hid (∀ (A0 A1 A2 : Option Addr) (c0 c1 c2 : Nat) (w : World), InPool w ts ks fs A0 A1 A2 → Calls Try.prog 8 #[.agg #[.int .i64 a, .int .i64 b, .int .i64 c, .int .i64 d, .int .i64 e], .agg #[.slice A0 ts.length c0, .slice A1 ks.length c1, .slice A2 fs.length c2, .int .i64 tn, .bool st], .int .i64 id, .int .i64 v0] w (GaveP us ks2 fs2 tn2 st2 z w)) ∧
 Hid (∀ (A0 A1 A2 : Option Addr) (c0 c1 c2 : Nat) (w : World), InPool w ts ks fs A0 A1 A2 → Calls Try.prog 11 #[.agg #[.int .i64 a, .int .i64 b, .int .i64 c, .int .i64 d, .int .i64 e], .agg #[.slice A0 ts.length c0, .slice A1 ks.length c1, .slice A2 fs.length c2, .int .i64 tn, .bool st], .int .i64 id, .int .i64 v0] w (GaveP us ks2 fs2 tn2 st2 z w)) := by
 have ht : ts.length ≤ 1048576 := by omega
 have hk : ks.length ≤ 1048576 := by omega
 have hf : fs.length ≤ 1048576 := by omega
 cases hp : poolB a b c d e ts ks fs tn
 ·exact ⟨[], [], [], 0, false, false, by simp, ⟨(fun h => by cases h), (fun _ h => by cases h)⟩, hide (fun A0 A1 A2 c0 c1 c2 w h => sWoken_bad a b c d e ts ks fs A0 A1 A2 c0 c1 c2 tn st id v0 w ht hk hf h hp), hide (fun A0 A1 A2 c0 c1 c2 w h => gWoken_bad a b c d e ts ks fs A0 A1 A2 c0 c1 c2 tn st id v0 w ht hk hf h hp)⟩
 ·cases hc : canB ts id v0 tn
  ·refine ⟨ts, ks, fs, tn, st, false, hl, ⟨(fun h => by cases h), fun _ _ => ⟨rfl, rfl, rfl, rfl, rfl⟩⟩, ?_, hide (fun A0 A1 A2 c0 c1 c2 w h => gWoken_no a b c d e ts ks fs A0 A1 A2 c0 c1 c2 tn st id v0 w ht hk hf h hp hc)⟩
   cases hb : btw id 0 ((ts.length : Int) - 1)
   ·exact hide (fun A0 A1 A2 c0 c1 c2 w h => sWoken_no1 a b c d e ts ks fs A0 A1 A2 c0 c1 c2 tn st id v0 w ht hk hf h hp hb)
   ·obtain ⟨k, rfl⟩ : ∃ k : Nat, id = k := ⟨id.toNat, by simp [btw] at hb; omega⟩
    have hkl : k < ts.length := by simp [btw] at hb; omega
    obtain ⟨⟨s, l, o1, wt, on, v, t⟩, hts⟩ : ∃ x, ts[k]? = some x := ⟨_, List.getElem?_eq_getElem hkl⟩
    by_cases hs : s = 3
    ·cases hv : btw v0 0 9999
     ·exact hide (fun A0 A1 A2 c0 c1 c2 w h => sWoken_no3 a b c d e ts ks fs A0 A1 A2 c0 c1 c2 tn st k v0 w ht hk hf h hp k s l o1 wt on v t rfl hts hb hs hv)
     ·have hz : poolB a b c d e (ts.set k (wakeT ⟨s, l, o1, wt, on, v, t⟩ tn v0)) ks fs (tn + 1) = false := by
       refine turn_over ?_
       have h1 := hc
       rw [canB, isInB_of hts, hv] at h1
       simp [hs] at h1
       omega
      exact hide (fun A0 A1 A2 c0 c1 c2 w h => sWoken_full a b c d e ts ks fs A0 A1 A2 c0 c1 c2 tn st k v0 w ht hk hf h hp k s l o1 wt on v t rfl hts hb hs hv hz)
    ·exact hide (fun A0 A1 A2 c0 c1 c2 w h => sWoken_no2 a b c d e ts ks fs A0 A1 A2 c0 c1 c2 tn st k v0 w ht hk hf h hp k s l o1 wt on v t rfl hts hb hs)
  ·have hc2 := hc
   simp only [canB, Bool.and_eq_true, decide_eq_true_eq] at hc2
   obtain ⟨k, ⟨s, l, o1, wt, on, v, t⟩, rfl, hkl, hts, hs⟩ := isInB_nat hc2.1
   have hb : btw (k : Int) 0 ((ts.length : Int) - 1) = true := by simp [btw]; omega
   have hz := wake_right (v := v0) hp hts hs hc2.2.1 hc2.2.2
   exact ⟨ts.set k (wakeT ⟨s, l, o1, wt, on, v, t⟩ tn v0), ks, fs, tn + 1, st, true, by simpa using hl, ⟨fun _ => ⟨k, ⟨s, l, o1, wt, on, v, t⟩, rfl, hts, hs, rfl, rfl, rfl, rfl, rfl, rfl, hz⟩, (fun h => by cases h)⟩, hide (fun A0 A1 A2 c0 c1 c2 w h => sWoken_yes a b c d e ts ks fs A0 A1 A2 c0 c1 c2 tn st k v0 w ht hk hf h hp k s l o1 wt on v t rfl hts hb hs hc2.2.1 hz), hide (fun A0 A1 A2 c0 c1 c2 w h => gWoken_yes a b c d e ts ks fs A0 A1 A2 c0 c1 c2 tn st k v0 w ht hk hf h hp k s l o1 wt on v t rfl hts hc)⟩
theorem woken_both (a b c d e : Int) (ts : List T7) (ks : List Int) (fs : List F2) (tn : Int) (st : Bool) (id : Int) (v0 : Int) (hl : ts.length + ks.length + fs.length ≤ 1048576) :
 ∃ (us : List T7) (ks2 : List Int) (fs2 : List F2) (tn2 : Int) (st2 z : Bool), us.length + ks2.length + fs2.length ≤ 1048576 ∧
 Hid (∀ (A0 A1 A2 : Option Addr) (c0 c1 c2 : Nat) (w : World), InPool w ts ks fs A0 A1 A2 → Calls Try.prog 8 #[.agg #[.int .i64 a, .int .i64 b, .int .i64 c, .int .i64 d, .int .i64 e], .agg #[.slice A0 ts.length c0, .slice A1 ks.length c1, .slice A2 fs.length c2, .int .i64 tn, .bool st], .int .i64 id, .int .i64 v0] w (GaveP us ks2 fs2 tn2 st2 z w)) ∧
 Hid (∀ (A0 A1 A2 : Option Addr) (c0 c1 c2 : Nat) (w : World), InPool w ts ks fs A0 A1 A2 → Calls Try.prog 11 #[.agg #[.int .i64 a, .int .i64 b, .int .i64 c, .int .i64 d, .int .i64 e], .agg #[.slice A0 ts.length c0, .slice A1 ks.length c1, .slice A2 fs.length c2, .int .i64 tn, .bool st], .int .i64 id, .int .i64 v0] w (GaveP us ks2 fs2 tn2 st2 z w)) := by
 obtain ⟨us, ks2, fs2, tn2, st2, z, h0, _, h1, h2⟩ := woken_told a b c d e ts ks fs tn st id v0 hl
 exact ⟨us, ks2, fs2, tn2, st2, z, h0, h1, h2⟩
theorem parked_told (a b c d e : Int) (ts : List T7) (ks : List Int) (fs : List F2) (tn : Int) (st : Bool) (id : Int) (pw : Int) (po : Int) (hl : ts.length + ks.length + fs.length ≤ 1048576) :
 ∃ (us : List T7) (ks2 : List Int) (fs2 : List F2) (tn2 : Int) (st2 z : Bool), us.length + ks2.length + fs2.length ≤ 1048576 ∧
 ((z = true → ∃ (k : Nat) (x : T7), id = k ∧ ts[k]? = some x ∧ x.s = 2 ∧ us = ts.set k (parkT x tn pw po) ∧ ks2 = ks ∧ fs2 = fs ∧ tn2 = tn + 1 ∧ st2 = st ∧ poolB a b c d e ts ks fs tn = true ∧ poolB a b c d e us ks2 fs2 tn2 = true) ∧ (z = false → poolB a b c d e ts ks fs tn = true → us = ts ∧ ks2 = ks ∧ fs2 = fs ∧ tn2 = tn ∧ st2 = st)) ∧
 Hid (∀ (A0 A1 A2 : Option Addr) (c0 c1 c2 : Nat) (w : World), InPool w ts ks fs A0 A1 A2 → Calls Try.prog 17 #[.agg #[.int .i64 a, .int .i64 b, .int .i64 c, .int .i64 d, .int .i64 e], .agg #[.slice A0 ts.length c0, .slice A1 ks.length c1, .slice A2 fs.length c2, .int .i64 tn, .bool st], .int .i64 id, .int .i64 pw, .int .i64 po] w (GaveP us ks2 fs2 tn2 st2 z w)) ∧
 Hid (∀ (A0 A1 A2 : Option Addr) (c0 c1 c2 : Nat) (w : World), InPool w ts ks fs A0 A1 A2 → Calls Try.prog 18 #[.agg #[.int .i64 a, .int .i64 b, .int .i64 c, .int .i64 d, .int .i64 e], .agg #[.slice A0 ts.length c0, .slice A1 ks.length c1, .slice A2 fs.length c2, .int .i64 tn, .bool st], .int .i64 id, .int .i64 pw, .int .i64 po] w (GaveP us ks2 fs2 tn2 st2 z w)) := by
 have ht : ts.length ≤ 1048576 := by omega
 have hk : ks.length ≤ 1048576 := by omega
 have hf : fs.length ≤ 1048576 := by omega
 cases hp : poolB a b c d e ts ks fs tn
 ·exact ⟨[], [], [], 0, false, false, by simp, ⟨(fun h => by cases h), (fun _ h => by cases h)⟩, hide (fun A0 A1 A2 c0 c1 c2 w h => sParkedBy_bad a b c d e ts ks fs A0 A1 A2 c0 c1 c2 tn st id pw po w ht hk hf h hp), hide (fun A0 A1 A2 c0 c1 c2 w h => gParkedBy_bad a b c d e ts ks fs A0 A1 A2 c0 c1 c2 tn st id pw po w ht hk hf h hp)⟩
 ·cases hc : isInB ts id 2
  ·refine ⟨ts, ks, fs, tn, st, false, hl, ⟨(fun h => by cases h), fun _ _ => ⟨rfl, rfl, rfl, rfl, rfl⟩⟩, ?_, hide (fun A0 A1 A2 c0 c1 c2 w h => gParkedBy_no a b c d e ts ks fs A0 A1 A2 c0 c1 c2 tn st id pw po w ht hk hf h hp hc)⟩
   cases hb : btw id 0 ((ts.length : Int) - 1)
   ·exact hide (fun A0 A1 A2 c0 c1 c2 w h => sParkedBy_no1 a b c d e ts ks fs A0 A1 A2 c0 c1 c2 tn st id pw po w ht hk hf h hp hb)
   ·obtain ⟨k, rfl⟩ : ∃ k : Nat, id = k := ⟨id.toNat, by simp [btw] at hb; omega⟩
    have hkl : k < ts.length := by simp [btw] at hb; omega
    obtain ⟨⟨s, l, o1, wt, on, v, t⟩, hts⟩ : ∃ x, ts[k]? = some x := ⟨_, List.getElem?_eq_getElem hkl⟩
    have hs : ¬ s = 2 := by
     have h1 := hc
     rw [isInB_of hts] at h1
     simpa using h1
    exact hide (fun A0 A1 A2 c0 c1 c2 w h => sParkedBy_no2 a b c d e ts ks fs A0 A1 A2 c0 c1 c2 tn st k pw po w ht hk hf h hp k s l o1 wt on v t rfl hts hb hs)
  ·obtain ⟨k, ⟨s, l, o1, wt, on, v, t⟩, rfl, hkl, hts, hs⟩ := isInB_nat hc
   have hb : btw (k : Int) 0 ((ts.length : Int) - 1) = true := by simp [btw]; omega
   cases hz : poolB a b c d e (ts.set k (parkT ⟨s, l, o1, wt, on, v, t⟩ tn pw po)) ks fs (tn + 1)
   ·exact ⟨ts, ks, fs, tn, st, false, hl, ⟨(fun h => by cases h), fun _ _ => ⟨rfl, rfl, rfl, rfl, rfl⟩⟩, hide (fun A0 A1 A2 c0 c1 c2 w h => sParkedBy_full a b c d e ts ks fs A0 A1 A2 c0 c1 c2 tn st k pw po w ht hk hf h hp k s l o1 wt on v t rfl hts hb hs hz), hide (fun A0 A1 A2 c0 c1 c2 w h => gParkedBy_full a b c d e ts ks fs A0 A1 A2 c0 c1 c2 tn st k pw po w ht hk hf h hp k s l o1 wt on v t rfl hts hc hz)⟩
   ·exact ⟨ts.set k (parkT ⟨s, l, o1, wt, on, v, t⟩ tn pw po), ks, fs, tn + 1, st, true, by simpa using hl, ⟨fun _ => ⟨k, ⟨s, l, o1, wt, on, v, t⟩, rfl, hts, hs, rfl, rfl, rfl, rfl, rfl, rfl, hz⟩, (fun h => by cases h)⟩, hide (fun A0 A1 A2 c0 c1 c2 w h => sParkedBy_yes a b c d e ts ks fs A0 A1 A2 c0 c1 c2 tn st k pw po w ht hk hf h hp k s l o1 wt on v t rfl hts hb hs hz), hide (fun A0 A1 A2 c0 c1 c2 w h => gParkedBy_yes a b c d e ts ks fs A0 A1 A2 c0 c1 c2 tn st k pw po w ht hk hf h hp k s l o1 wt on v t rfl hts hc hz)⟩
theorem parked_both (a b c d e : Int) (ts : List T7) (ks : List Int) (fs : List F2) (tn : Int) (st : Bool) (id : Int) (pw : Int) (po : Int) (hl : ts.length + ks.length + fs.length ≤ 1048576) :
 ∃ (us : List T7) (ks2 : List Int) (fs2 : List F2) (tn2 : Int) (st2 z : Bool), us.length + ks2.length + fs2.length ≤ 1048576 ∧
 Hid (∀ (A0 A1 A2 : Option Addr) (c0 c1 c2 : Nat) (w : World), InPool w ts ks fs A0 A1 A2 → Calls Try.prog 17 #[.agg #[.int .i64 a, .int .i64 b, .int .i64 c, .int .i64 d, .int .i64 e], .agg #[.slice A0 ts.length c0, .slice A1 ks.length c1, .slice A2 fs.length c2, .int .i64 tn, .bool st], .int .i64 id, .int .i64 pw, .int .i64 po] w (GaveP us ks2 fs2 tn2 st2 z w)) ∧
 Hid (∀ (A0 A1 A2 : Option Addr) (c0 c1 c2 : Nat) (w : World), InPool w ts ks fs A0 A1 A2 → Calls Try.prog 18 #[.agg #[.int .i64 a, .int .i64 b, .int .i64 c, .int .i64 d, .int .i64 e], .agg #[.slice A0 ts.length c0, .slice A1 ks.length c1, .slice A2 fs.length c2, .int .i64 tn, .bool st], .int .i64 id, .int .i64 pw, .int .i64 po] w (GaveP us ks2 fs2 tn2 st2 z w)) := by
 obtain ⟨us, ks2, fs2, tn2, st2, z, h0, _, h1, h2⟩ := parked_told a b c d e ts ks fs tn st id pw po hl
 exact ⟨us, ks2, fs2, tn2, st2, z, h0, h1, h2⟩
/-- Two operations that make a block each: their numbers, their slots, the blocks. -/
structure Two where
 i1 : Nat
 i2 : Nat
 d1 : Nat
 d2 : Nat
 T1 : TypeId
 T2 : TypeId
 z1 : Array Value
 z2 : Array Value
/-- A block that may have been made already. -/
inductive Al (T : TypeId) (z : Array Value) : Bool → Value → List Res → Prop where
 | no : Al T z false undef []
 | yes (g : Nat) : Al T z true (.pointer (some ⟨g, 0, none⟩)) [.blk g T z]
def put2 (q : Two) (a : Act) (x1 x2 : Value) : Act := { a with tmps := (a.tmps.setIfInBounds q.d1 x1).setIfInBounds q.d2 x2 }
def list2 (q : Two) (L : Array Bool) (b1 b2 : Bool) : Array Bool := (L.setIfInBounds q.i1 b1).setIfInBounds q.i2 b2
theorem set_swap {α : Type} (L : Array α) {i j : Nat} (h : i ≠ j) (x y : α) : (L.setIfInBounds i x).setIfInBounds j y = (L.setIfInBounds j y).setIfInBounds i x := by
 apply Array.ext'
 simp only [Array.toList_setIfInBounds]
 exact List.set_comm _ _ h
theorem set_over {α : Type} (L : Array α) (i : Nat) (x y : α) : (L.setIfInBounds i x).setIfInBounds i y = L.setIfInBounds i y := by
 apply Array.ext'
 simp only [Array.toList_setIfInBounds]
 exact List.set_set _
section
variable {P : Program} {Q : Exit → Act → World → Prop} {md : Region.Mode} {S : World → Prop} {ks : List Nat} {l : List Oper} {q : Two} {S0 : List Nat} {w0 : World}
theorem list2_1 (L : Array Bool) (b2 : Bool) (h : q.i1 ≠ q.i2) : (list2 q L false b2).setIfInBounds q.i1 true = list2 q L true b2 := by
 unfold list2
 rw [set_swap _ (Ne.symm h), set_over]
theorem list2_2 (L : Array Bool) (b1 : Bool) : (list2 q L b1 false).setIfInBounds q.i2 true = list2 q L b1 true := by
 unfold list2
 rw [set_over]
theorem list2_c (L : Array Bool) (b1 b2 : Bool) {c : Nat} (h1 : q.i1 ≠ c) (h2 : q.i2 ≠ c) : (list2 q L b1 b2).setIfInBounds c true = list2 q (L.setIfInBounds c true) b1 b2 := by
 unfold list2
 rw [set_swap _ h2, set_swap _ h1]
theorem put2_1 (a : Act) (x x1 x2 : Value) (h : q.d1 ≠ q.d2) : (put2 q a x x2).put (some q.d1) x1 = put2 q a x1 x2 := by
 unfold put2 Act.put
 simp only
 rw [set_swap _ (Ne.symm h), set_over]
theorem put2_2 (a : Act) (x x1 x2 : Value) : (put2 q a x1 x).put (some q.d2) x2 = put2 q a x1 x2 := by
 unfold put2 Act.put
 simp only
 rw [set_over]
theorem put2_c (a : Act) (x1 x2 v : Value) {d : Nat} (h1 : q.d1 ≠ d) (h2 : q.d2 ≠ d) : (put2 q a x1 x2).put (some d) v = put2 q (a.put (some d) v) x1 x2 := by
 unfold put2 Act.put
 simp only
 rw [set_swap _ h2, set_swap _ h1]
/-- The region goes on rightly from here, whichever of the two blocks has been made. -/
def wpA (P : Program) (md : Region.Mode) (l : List Oper) (Q : Exit → Act → World → Prop) (S : World → Prop) (ks : List Nat) (q : Two) (S0 : List Nat) (w0 : World) (n : Nat) (L : Array Bool) (a : Act) (rs : List Res) : Prop :=
 ∀ (b1 b2 : Bool) (x1 x2 : Value) (e1 e2 : List Res) (W : World), Al q.T1 q.z1 b1 x1 e1 → Al q.T2 q.z2 b2 x2 e2 → Sep S0 w0 W (e1 ++ (e2 ++ rs)) →
  wpAnyT P md l.toArray Q S ks (n + ((!b1).toNat + (!b2).toNat)) (list2 q L b1 b2) (put2 q a x1 x2) W
theorem wpA_start {n : Nat} {L : Array Bool} {a : Act} {rs : List Res} {W : World} (hL : list2 q L false false = L) (ha : put2 q a undef undef = a) (M : Sep S0 w0 W rs) (h : wpA P md l Q S ks q S0 w0 n L a rs) : wpAnyT P md l.toArray Q S ks (n + 2) L a W := by
 have h1 := h false false undef undef [] [] W .no .no M
 rw [hL, ha] at h1
 exact h1
/-- What the two operations are. -/
structure Makes (P : Program) (l : List Oper) (q : Two) : Prop where
 ne : q.i1 ≠ q.i2
 dn : q.d1 ≠ q.d2
 one : ∃ o, l[q.i1]? = some o ∧ o.guard = none ∧ o.dst = some q.d1 ∧ ∀ (a : Act) (W : World), (execOp a.eval o).run P W = .ok (.value (.pointer (some ⟨W.heap.size, 0, none⟩))) (W.alloc (.cells q.z1 q.T1))
 two : ∃ o, l[q.i2]? = some o ∧ o.guard = none ∧ o.dst = some q.d2 ∧ ∀ (a : Act) (W : World), (execOp a.eval o).run P W = .ok (.value (.pointer (some ⟨W.heap.size, 0, none⟩))) (W.alloc (.cells q.z2 q.T2))
theorem wpA_startH {n : Nat} {L : Array Bool} {a : Act} {rs : List Res} {W : World} (hL : list2 q L false false = L) (ha : put2 q a undef undef = a) (M : Sep S0 w0 W rs) (H : Makes P l q) (h : Makes P l q → wpA P md l Q S ks q S0 w0 n L a rs) : wpAnyT P md l.toArray Q S ks (n + 2) L a W := wpA_start hL ha M (h H)
theorem wpOp_go {i : Nat} {o : Oper} {K : Act → World → Prop} {a : Act} {W : World} (ho : l[i]? = some o) (hg : o.guard = none) (h : o.wp P a W K Q) : wpOp P l.toArray Q i K a W := by
 have ho' : l.toArray[i]? = some o := by simpa using ho
 unfold wpOp
 rw [ho']
 simp only [Region.wanted, hg, if_true]
 exact .inl h
theorem wpOp_value {i : Nat} {o : Oper} {K : Act → World → Prop} {a : Act} {W W' : World} {v : Value} (ho : l[i]? = some o) (hg : o.guard = none) (hr : (execOp a.eval o).run P W = .ok (.value v) W') (h : K (a.put o.dst v) W') : wpOp P l.toArray Q i K a W := by
 refine wpOp_go ho hg ?_
 unfold Oper.wp
 rw [hr]
 exact h
theorem wpOp_calls {i : Nat} {o : Oper} {K : Act → World → Prop} {a : Act} {W : World} {f : FuncId} {args : Array Value} (ho : l[i]? = some o) (hg : o.guard = none) (hr : (execOp a.eval o).run P W = .ok (.enter f args) W) (h : Calls P f args W fun r W' => ∃ v, r = .returned v ∧ K (a.put o.dst v) W') : wpOp P l.toArray Q i K a W := by
 refine wpOp_go ho hg ?_
 unfold Oper.wp
 rw [hr]
 refine h.mono ?_
 rintro r W' ⟨v, rfl, hK⟩
 exact hK
/-- One of the two blocks is made: what is left is asked with it there. -/
theorem made1 (H : Makes P l q) {m : Nat} {L : Array Bool} {a : Act} {x2 : Value} {rs : List Res} {W : World} (hS : ∀ V e, Sep S0 w0 V (e ++ rs) → S V) (M : Sep S0 w0 W rs) (h : ∀ g V, Sep S0 w0 V (.blk g q.T1 q.z1 :: rs) → wpAnyT P md l.toArray Q S ks m L (put2 q a (.pointer (some ⟨g, 0, none⟩)) x2) V) :
 wpOp P l.toArray Q q.i1 (fun a' w' => (calmB ks L = true → S w') ∧ wpAnyT P md l.toArray Q S ks m L a' w') (put2 q a undef x2) W := by
 obtain ⟨o, ho, hg, hd, hx⟩ := H.one
 refine wpOp_value ho hg (hx _ _) ?_
 have M1 := M.allocN q.T1 q.z1
 refine ⟨fun _ => hS _ [_] M1, ?_⟩
 rw [hd, put2_1 _ _ _ _ H.dn]
 exact h _ _ M1
theorem made2 (H : Makes P l q) {m : Nat} {L : Array Bool} {a : Act} {x1 : Value} {rs : List Res} {W : World} (hS : ∀ V e, Sep S0 w0 V (e ++ rs) → S V) (M : Sep S0 w0 W rs) (h : ∀ g V, Sep S0 w0 V (.blk g q.T2 q.z2 :: rs) → wpAnyT P md l.toArray Q S ks m L (put2 q a x1 (.pointer (some ⟨g, 0, none⟩))) V) :
 wpOp P l.toArray Q q.i2 (fun a' w' => (calmB ks L = true → S w') ∧ wpAnyT P md l.toArray Q S ks m L a' w') (put2 q a x1 undef) W := by
 obtain ⟨o, ho, hg, hd, hx⟩ := H.two
 refine wpOp_value ho hg (hx _ _) ?_
 have M1 := M.allocN q.T2 q.z2
 refine ⟨fun _ => hS _ [_] M1, ?_⟩
 rw [hd, put2_2]
 exact h _ _ M1
/-- The chain's next operation, beside the two. -/
theorem wpA_step (H : Makes P l q) {c n : Nat} {L : Array Bool} {a : Act} {rs : List Res} (h1 : q.i1 ≠ c) (h2 : q.i2 ≠ c)
 (hr : ∀ b1 b2, Region.ready md l.toArray (list2 q L b1 b2) = c :: ((if b1 then [] else [q.i1]) ++ (if b2 then [] else [q.i2])))
 (hS : ∀ V e, Sep S0 w0 V (e ++ rs) → S V)
 (hc : ∀ (b1 b2 : Bool) (x1 x2 : Value) (e1 e2 : List Res) (W : World), Al q.T1 q.z1 b1 x1 e1 → Al q.T2 q.z2 b2 x2 e2 → Sep S0 w0 W (e1 ++ (e2 ++ rs)) →
  wpOp P l.toArray Q c (fun a' w' => (calmB ks (list2 q (L.setIfInBounds c true) b1 b2) = true → S w') ∧ wpAnyT P md l.toArray Q S ks (n + ((!b1).toNat + (!b2).toNat)) (list2 q (L.setIfInBounds c true) b1 b2) a' w') (put2 q a x1 x2) W) :
 wpA P md l Q S ks q S0 w0 (n + 1) L a rs := by
 have hc' : ∀ (b1 b2 : Bool) (x1 x2 : Value) (e1 e2 : List Res) (W : World), Al q.T1 q.z1 b1 x1 e1 → Al q.T2 q.z2 b2 x2 e2 → Sep S0 w0 W (e1 ++ (e2 ++ rs)) →
  wpOp P l.toArray Q c (fun a' w' => (calmB ks ((list2 q L b1 b2).setIfInBounds c true) = true → S w') ∧ wpAnyT P md l.toArray Q S ks (n + ((!b1).toNat + (!b2).toNat)) ((list2 q L b1 b2).setIfInBounds c true) a' w') (put2 q a x1 x2) W := by
  intro b1 b2 x1 x2 e1 e2 W hA hB M
  rw [list2_c _ _ _ h1 h2]
  exact hc b1 b2 x1 x2 e1 e2 W hA hB M
 have tt : ∀ (g1 g2 : Nat) (W : World), Sep S0 w0 W (.blk g1 q.T1 q.z1 :: .blk g2 q.T2 q.z2 :: rs) → wpAnyT P md l.toArray Q S ks (n + 1) (list2 q L true true) (put2 q a (.pointer (some ⟨g1, 0, none⟩)) (.pointer (some ⟨g2, 0, none⟩))) W := by
  intro g1 g2 W M
  refine ⟨fun h0 => (by rw [hr] at h0; cases h0), fun i hi => ?_⟩
  rw [hr] at hi
  simp only [if_true, List.append_nil, List.mem_singleton] at hi
  subst hi
  exact hc' true true _ _ _ _ W (.yes g1) (.yes g2) M
 have tf : ∀ (g1 : Nat) (W : World), Sep S0 w0 W (.blk g1 q.T1 q.z1 :: rs) → wpAnyT P md l.toArray Q S ks (n + 2) (list2 q L true false) (put2 q a (.pointer (some ⟨g1, 0, none⟩)) undef) W := by
  intro g1 W M
  refine ⟨fun h0 => (by rw [hr] at h0; cases h0), fun i hi => ?_⟩
  rw [hr] at hi
  simp only [if_true, Bool.false_eq_true, if_false, List.nil_append, List.mem_cons, List.not_mem_nil, or_false] at hi
  rcases hi with rfl | rfl
  ·exact hc' true false _ _ _ _ W (.yes g1) .no M
  ·rw [list2_2]
   exact made2 H (rs := .blk g1 q.T1 q.z1 :: rs) (fun V e hM => hS V (e ++ [.blk g1 q.T1 q.z1]) (by simpa using hM)) M (fun g V hM => tt g1 g V (hM.perm (List.Perm.swap ..)))
 have ft : ∀ (g2 : Nat) (W : World), Sep S0 w0 W (.blk g2 q.T2 q.z2 :: rs) → wpAnyT P md l.toArray Q S ks (n + 2) (list2 q L false true) (put2 q a undef (.pointer (some ⟨g2, 0, none⟩))) W := by
  intro g2 W M
  refine ⟨fun h0 => (by rw [hr] at h0; cases h0), fun i hi => ?_⟩
  rw [hr] at hi
  simp only [if_true, Bool.false_eq_true, if_false, List.append_nil, List.mem_cons, List.not_mem_nil, or_false] at hi
  rcases hi with rfl | rfl
  ·exact hc' false true _ _ _ _ W .no (.yes g2) M
  ·rw [list2_1 _ _ H.ne]
   exact made1 H (rs := .blk g2 q.T2 q.z2 :: rs) (fun V e hM => hS V (e ++ [.blk g2 q.T2 q.z2]) (by simpa using hM)) M (fun g V hM => tt g g2 V hM)
 have ff : ∀ (W : World), Sep S0 w0 W rs → wpAnyT P md l.toArray Q S ks (n + 3) (list2 q L false false) (put2 q a undef undef) W := by
  intro W M
  refine ⟨fun h0 => (by rw [hr] at h0; cases h0), fun i hi => ?_⟩
  rw [hr] at hi
  simp only [Bool.false_eq_true, if_false, List.cons_append, List.nil_append, List.mem_cons, List.not_mem_nil, or_false] at hi
  rcases hi with rfl | rfl | rfl
  ·exact hc' false false _ _ _ _ W .no .no M
  ·rw [list2_1 _ _ H.ne]
   exact made1 H hS M (fun g V hM => tf g V hM)
  ·rw [list2_2]
   exact made2 H hS M (fun g V hM => ft g V hM)
 intro b1 b2 x1 x2 e1 e2 W hA hB M
 cases hA <;> cases hB
 ·exact ff W M
 ·exact ft _ W M
 ·exact tf _ W M
 ·exact tt _ _ W M
/-- The chain is at its end: what is left of the two is made. -/
theorem wpA_end (H : Makes P l q) {n : Nat} {L : Array Bool} {a : Act} {rs : List Res}
 (hr : ∀ b1 b2, (b1 && b2) = false → Region.ready md l.toArray (list2 q L b1 b2) = (if b1 then [] else [q.i1]) ++ (if b2 then [] else [q.i2]))
 (hS : ∀ V e, Sep S0 w0 V (e ++ rs) → S V)
 (tt : ∀ (g1 g2 : Nat) (W : World), Sep S0 w0 W (.blk g1 q.T1 q.z1 :: .blk g2 q.T2 q.z2 :: rs) → wpAnyT P md l.toArray Q S ks n (list2 q L true true) (put2 q a (.pointer (some ⟨g1, 0, none⟩)) (.pointer (some ⟨g2, 0, none⟩))) W) :
 wpA P md l Q S ks q S0 w0 n L a rs := by
 have tf : ∀ (g1 : Nat) (W : World), Sep S0 w0 W (.blk g1 q.T1 q.z1 :: rs) → wpAnyT P md l.toArray Q S ks (n + 1) (list2 q L true false) (put2 q a (.pointer (some ⟨g1, 0, none⟩)) undef) W := by
  intro g1 W M
  refine ⟨fun h0 => (by rw [hr _ _ rfl] at h0; simp at h0), fun i hi => ?_⟩
  rw [hr _ _ rfl] at hi
  simp only [if_true, Bool.false_eq_true, if_false, List.nil_append, List.mem_cons, List.not_mem_nil, or_false] at hi
  subst hi
  rw [list2_2]
  exact made2 H (rs := .blk g1 q.T1 q.z1 :: rs) (fun V e hM => hS V (e ++ [.blk g1 q.T1 q.z1]) (by simpa using hM)) M (fun g V hM => tt g1 g V (hM.perm (List.Perm.swap ..)))
 have ft : ∀ (g2 : Nat) (W : World), Sep S0 w0 W (.blk g2 q.T2 q.z2 :: rs) → wpAnyT P md l.toArray Q S ks (n + 1) (list2 q L false true) (put2 q a undef (.pointer (some ⟨g2, 0, none⟩))) W := by
  intro g2 W M
  refine ⟨fun h0 => (by rw [hr _ _ rfl] at h0; simp at h0), fun i hi => ?_⟩
  rw [hr _ _ rfl] at hi
  simp only [if_true, Bool.false_eq_true, if_false, List.append_nil, List.mem_cons, List.not_mem_nil, or_false] at hi
  subst hi
  rw [list2_1 _ _ H.ne]
  exact made1 H (rs := .blk g2 q.T2 q.z2 :: rs) (fun V e hM => hS V (e ++ [.blk g2 q.T2 q.z2]) (by simpa using hM)) M (fun g V hM => tt g g2 V hM)
 have ff : ∀ (W : World), Sep S0 w0 W rs → wpAnyT P md l.toArray Q S ks (n + 2) (list2 q L false false) (put2 q a undef undef) W := by
  intro W M
  refine ⟨fun h0 => (by rw [hr _ _ rfl] at h0; simp at h0), fun i hi => ?_⟩
  rw [hr _ _ rfl] at hi
  simp only [Bool.false_eq_true, if_false, List.cons_append, List.nil_append, List.mem_cons, List.not_mem_nil, or_false] at hi
  rcases hi with rfl | rfl
  ·rw [list2_1 _ _ H.ne]
   exact made1 H hS M (fun g V hM => tf g V hM)
  ·rw [list2_2]
   exact made2 H hS M (fun g V hM => ft g V hM)
 intro b1 b2 x1 x2 e1 e2 W hA hB M
 cases hA <;> cases hB
 ·exact ff W M
 ·exact ft _ W M
 ·exact tf _ W M
 ·exact tt _ _ W M
/-- A call. -/
theorem wpA_call (H : Makes P l q) {c n d : Nat} {oc : Oper} {L : Array Bool} {a : Act} {rs : List Res} {f : FuncId} {args : Array Value} (Nx : Value → List Res → Prop) (hoc : l[c]? = some oc) (hg : oc.guard = none) (hd : oc.dst = some d) (h1 : q.i1 ≠ c) (h2 : q.i2 ≠ c) (h3 : q.d1 ≠ d) (h4 : q.d2 ≠ d)
 (hr : ∀ b1 b2, Region.ready md l.toArray (list2 q L b1 b2) = c :: ((if b1 then [] else [q.i1]) ++ (if b2 then [] else [q.i2])))
 (hS : ∀ V e, Sep S0 w0 V (e ++ rs) → S V)
 (hx : ∀ x1 x2 W, (execOp (put2 q a x1 x2).eval oc).run P W = .ok (.enter f args) W)
 (hcall : ∀ W, Sep S0 w0 W rs → Calls P f args W fun r W' => ∃ v new, r = .returned v ∧ Sep [] W W' new ∧ Nx v new)
 (hnext : ∀ v new, Nx v new → wpA P md l Q S ks q S0 w0 n (L.setIfInBounds c true) (a.put (some d) v) (new ++ rs)) :
 wpA P md l Q S ks q S0 w0 (n + 1) L a rs := by
 refine wpA_step H h1 h2 hr hS ?_
 intro b1 b2 x1 x2 e1 e2 W hA hB M
 refine wpOp_calls hoc hg (hx _ _ _) ?_
 refine (hcall W (M.sub (by rw [← List.append_assoc]; exact List.sublist_append_right _ _))).mono ?_
 rintro r W' ⟨v, new, rfl, k, hN⟩
 have M1 : Sep S0 w0 W' (e1 ++ (e2 ++ (new ++ rs))) := (Sep.new M k).perm (by
  have p1 : (new ++ (e1 ++ (e2 ++ rs))).Perm (e1 ++ (new ++ (e2 ++ rs))) := List.perm_append_comm_assoc ..
  have p2 : (new ++ (e2 ++ rs)).Perm (e2 ++ (new ++ rs)) := List.perm_append_comm_assoc ..
  exact p1.trans (List.Perm.append_left e1 p2))
 refine ⟨v, rfl, fun _ => hS W' (e1 ++ (e2 ++ new)) (by simpa using M1), ?_⟩
 rw [hd, put2_c _ _ _ _ h3 h4]
 exact hnext v new hN b1 b2 x1 x2 e1 e2 W' hA hB M1
/-- An operation that yields a value in whatever world is taken first. -/
theorem wpA_take {c n d : Nat} {oc : Oper} {L : Array Bool} {a : Act} {rs : List Res} {v : Value} (hoc : l[c]? = some oc) (hg : oc.guard = none) (hd : oc.dst = some d) (h1 : q.i1 ≠ c) (h2 : q.i2 ≠ c) (h3 : q.d1 ≠ d) (h4 : q.d2 ≠ d)
 (hs : Region.noSelect l.toArray = true) (hf : ∀ b1 b2, Region.free md l.toArray (list2 q L b1 b2) c = true) (hr : ∀ b1 b2, (Region.ready md l.toArray (list2 q L b1 b2)).contains c = true) (hk : ks.contains c = false)
 (hQ : ∀ c' a' w', Q (.panic c') (a'.put oc.dst v) w' → Q (.panic c') a' w')
 (hS : ∀ V e, Sep S0 w0 V (e ++ rs) → S V)
 (hx : ∀ x1 x2 W, (execOp (put2 q a x1 x2).eval oc).run P W = .ok (.value v) W)
 (hnext : wpA P md l Q S ks q S0 w0 n (L.setIfInBounds c true) (a.put (some d) v) rs) :
 wpA P md l Q S ks q S0 w0 (n + 1) L a rs := by
 intro b1 b2 x1 x2 e1 e2 W hA hB M
 have h := hnext b1 b2 x1 x2 e1 e2 W hA hB M
 rw [← put2_c _ _ _ _ h3 h4, ← list2_c _ _ _ h1 h2, ← hd] at h
 have h5 := wpAnyT_takeY (S := S) hoc hs (hf b1 b2) (hr b1 b2) hk hQ (by simp only [Region.wanted, hg]) (hx x1 x2) (fun _ => hS W (e1 ++ e2) (by simpa using M)) h
 rw [Nat.add_right_comm] at h5
 exact h5
end
end Go.Proofs.Ytfkdfkoigojciaa
