/- A right pool in which one task waits, is cancelled or has another level, or a token is given or taken, is right. No condition. -/
import Derived.Shelf.Abstract
import Derived.Test.YtfkdfkoigojciaaGreatDoorQT35
import Derived.Test.YtfkdfkoigojciaaGreatDoorQT38
import Derived.Test.YtfkdfkoigojciaaGreatDoorQT12
import Derived.Test.YtfkdfkoigojciaaGreatDoorQT14
import Derived.Test.YtfkdfkoigojciaaGreatDoorQT15
import Derived.Test.YtfkdfkoigojciaaGreatDoorQT11
import Derived.Test.YtfkdfkoigojciaaGreatDoorQT10

namespace Go.Proofs.YtfkdfkoigojciaaGreatDoor
open Go.RowKit
set_option linter.unusedVariables false
set_option maxHeartbeats 2000000
set_option maxRecDepth 100000
attribute [local go_sem] Oper.semAt_some
theorem pick_mem {q : Nat → Bool} {n k : Nat} (h : k ∈ pick q n) : k < n ∧ q k = true := by
 induction n with
 | zero => simp [pick] at h
 | succ n ih =>
  simp only [pick] at h
  split at h
  ·rename_i hq
   rcases List.mem_append.1 h with h | h
   ·have := ih h; exact ⟨by omega, this.2⟩
   ·simp at h; subst h; exact ⟨by omega, hq⟩
  ·have := ih h; exact ⟨by omega, this.2⟩
theorem pick_nodup (q : Nat → Bool) (n : Nat) : (pick q n).Nodup := by
 induction n with
 | zero => simp [pick]
 | succ n ih =>
  simp only [pick]
  split
  ·rw [List.nodup_append]
   refine ⟨ih, by simp, fun a ha b hb => ?_⟩
   simp at hb
   have := (pick_mem ha).1
   omega
  ·exact ih
theorem waitersM_nodup (ts : List T7) (wt on : Int) : (waitersM ts wt on).Nodup := by
 unfold waitersM
 rw [(lineM_perm _ _ _).nodup_iff]
 exact List.pairwise_map.2 ((pick_nodup _ _).imp (fun h e => h (Int.ofNat.inj e)))
theorem waitersM_mem {ts : List T7} {wt on j : Int} (h : j ∈ waitersM ts wt on) : ∃ (k : Nat) (x : T7), j = k ∧ k < ts.length ∧ ts[k]? = some x ∧ x.s = 3 ∧ x.wt = wt ∧ x.on = on := by
 unfold waitersM at h
 rw [(lineM_perm _ _ _).mem_iff] at h
 obtain ⟨k, hk, rfl⟩ := List.mem_map.1 h
 obtain ⟨h1, h2⟩ := pick_mem hk
 refine ⟨k, ts[k], rfl, h1, List.getElem?_eq_getElem h1, ?_⟩
 have e : ts.getD k default = ts[k] := by rw [List.getD_eq_getElem?_getD, List.getElem?_eq_getElem h1]; rfl
 simp only [waitQ, e, Bool.and_eq_true, beq_iff_eq] at h2
 exact h2
theorem wakeAllT_snoc (pre : List Int) (j : Int) (ts : List T7) (tn v : Int) : wakeAllT (pre ++ [j]) ts tn v = (wakeAllT pre ts tn v).set j.toNat (wakeT (taskAt (wakeAllT pre ts tn v) j) (tn + pre.length) v) := by
 induction pre generalizing ts tn with
 | nil => simp [wakeAllT]
 | cons i r ih =>
  simp only [List.cons_append, wakeAllT, ih, List.length_cons]
  rw [show tn + 1 + (r.length : Int) = tn + ((r.length + 1 : Nat) : Int) by omega]
theorem wakeAllT_other (pre : List Int) (ts : List T7) (tn v : Int) (k : Nat) (h : (k : Int) ∉ pre) (hp : ∀ j ∈ pre, 0 ≤ j) : (wakeAllT pre ts tn v)[k]? = ts[k]? := by
 induction pre generalizing ts tn with
 | nil => rfl
 | cons i r ih =>
  simp only [wakeAllT]
  rw [ih _ _ (fun hm => h (List.mem_cons_of_mem _ hm)) (fun j hj => hp j (List.mem_cons_of_mem _ hj))]
  have h0 := hp i (List.mem_cons_self ..)
  exact List.getElem?_set_ne (by intro e; apply h; rw [← e]; simp [Int.toNat_of_nonneg h0])
/-- Those who wait can all be woken. -/
def okAll (l : List Int) (v tn : Int) : Bool := l.isEmpty || (btw v 0 9999 && decide (tn + l.length ≤ 1000000))
theorem sorted_of (qs : List P3) : ∃ out : List P3, out.Perm qs ∧ out.Pairwise leP := by
 refine ⟨qs.mergeSort (fun a b => !aheadP b a), List.mergeSort_perm _ _, ?_⟩
 have := List.pairwise_mergeSort (le := fun a b => !aheadP b a) (fun a b c h k => by
  have h1 : leP a b := by simpa [leP] using h
  have h2 : leP b c := by simpa [leP] using k
  simpa [leP] using h1.trans h2) (fun a b => by
  rcases hb : aheadP b a with _ | _
  ·simp
  ·have := leP.of_ahead hb
   unfold leP at this
   simp [this]) qs
 exact this.imp (fun h => by simpa [leP] using h)
def lineLen (w : World) (lb : Nat) : Nat :=
 match w.cell? ⟨lb, 0, none⟩ with
 | some (.slice _ n _) => n
 | _ => 0
theorem lineLen_of {w : World} {lb n c : Nat} {A : Option Addr} (h : w.cell? ⟨lb, 0, none⟩ = some (.slice A n c)) : lineLen w lb = n := by simp [lineLen, h]
theorem fps_line {lb : Nat} {A : Option Addr} {c : Nat} {ps qs : List P3} {g : Nat} : g ∈ fps (lineL lb A c ps) ↔ g ∈ fps (lineL lb A c qs) := by
 cases A <;> exact Iff.rfl
theorem LineIn.above {B : Nat} {w W : World} {lb : Nat} {A : Option Addr} {c : Nat} {ps : List P3} (h : LineIn w lb A c ps) (hB : ∀ g ∈ fps (lineL lb A c ps), B ≤ g) (k : Above B w W) : LineIn W lb A c ps :=
 ⟨rfl, rfl, rfl, Nat.le_refl _, fun _ _ _ => rfl, fun r hr => (h.here r hr).keep fun g hg => k.same g (hB g (mem_fps.2 ⟨r, hr, hg⟩)) ((h.here r hr).lt hg), fun r hr g hg => .inl (mem_fps.2 ⟨r, hr, hg⟩), h.apart⟩
theorem Sep.belowB {S : List Nat} {w W : World} {rs : List Res} {B : Nat} (h : Sep S w W rs) (hS : ∀ g ∈ S, B ≤ g) (hB : B ≤ w.heap.size) : Below B w W :=
 ⟨h.os, h.tape, h.output, h.size, fun b hb => h.block b (Nat.lt_of_lt_of_le hb hB) (fun hm => by have := hS b hm; omega)⟩
theorem Sep.abide {S : List Nat} {w A C : World} {rs : List Res} {B : Nat} (h : Sep S w A rs) (hr : ∀ g ∈ fps rs, g < B) (hw : w.heap.size ≤ B) (k : Below B A C) : Sep S w C rs :=
 ⟨k.os.trans h.os, k.tape.trans h.tape, k.output.trans h.output, Nat.le_trans h.size k.size, fun b hb hn => (k.block b (by omega)).trans (h.block b hb hn), fun r hm => (h.here r hm).keep fun g hg => k.block g (hr g (mem_fps.2 ⟨r, hm, hg⟩)), h.own, h.apart⟩
theorem waiters_any (g : Nat) (wk on2 : Int) (w : World) :
 Calls Tryz.prog 170 #[.pointer (some ⟨g, 0, none⟩), .int .i64 wk, .int .i64 on2] w fun r w' => r = .returned (.func (.func 193) #[] #[.pointer (some ⟨w.heap.size, 0, none⟩), .pointer (some ⟨w.heap.size + 1, 0, none⟩), .pointer (some ⟨w.heap.size + 2, 0, none⟩)]) ∧ w' = ((w.alloc (.cells #[.pointer (some ⟨g, 0, none⟩)] 82)).alloc (.cells #[.int .i64 wk] 2)).alloc (.cells #[.int .i64 on2] 2) := by
 have hmf : ∀ (fn : Fn) (first cap : Array Value) (w : World), (Instr.makeFunc fn first cap).run Tryz.prog w = .ok (.func fn first cap) w := fun _ _ _ _ => rfl
 go_enter Tryz.func170, Tryz.ntmps170
 go_wp2_with fail
 go_ret
 exact ⟨rfl, rfl⟩
theorem waiters_seq (ts : List T7) (xb : Nat) (A0 : Option Addr) (c0 : Nat) (wk on2 : Int) (b3 b4 b5 : Nat) (w : World) (hlen : ts.length ≤ 1048576) (hx : w.cell? ⟨xb, 0, none⟩ = some (.slice A0 ts.length c0)) (h : Row w A0 (tcells ts))
 (h3 : w.cell? ⟨b3, 0, none⟩ = some (.pointer (some ⟨xb, 0, none⟩))) (h4 : w.cell? ⟨b4, 0, none⟩ = some (.int .i64 wk)) (h5 : w.cell? ⟨b5, 0, none⟩ = some (.int .i64 on2)) :
 SeqS Fence.wide 2 Tryz.prog 193 #[.pointer (some ⟨b3, 0, none⟩), .pointer (some ⟨b4, 0, none⟩), .pointer (some ⟨b5, 0, none⟩)] (fun j : Int => #[Value.int .i64 j]) (waitersM ts wk on2) w := by
 intro l J Jx W hW hJ hJx hY h0
 have hx1 : W.cell? ⟨xb, 0, none⟩ = some (.slice A0 ts.length c0) := (hW.cell (p := ⟨xb, 0, none⟩) (World.block_lt_of_cell? w _ hx)).trans hx
 have g3 : W.cell? ⟨b3, 0, none⟩ = some (.pointer (some ⟨xb, 0, none⟩)) := (hW.cell (p := ⟨b3, 0, none⟩) (World.block_lt_of_cell? w _ h3)).trans h3
 have g4 : W.cell? ⟨b4, 0, none⟩ = some (.int .i64 wk) := (hW.cell (p := ⟨b4, 0, none⟩) (World.block_lt_of_cell? w _ h4)).trans h4
 have g5 : W.cell? ⟨b5, 0, none⟩ = some (.int .i64 on2) := (hW.cell (p := ⟨b5, 0, none⟩) (World.block_lt_of_cell? w _ h5)).trans h5
 have hP := hide (waitersOn_p ts xb A0 c0 wk on2 W hlen hx1 (h.below hW))
 have HY := hide (⟨hY, hJ, hJx, h0⟩ : _ ∧ _ ∧ _ ∧ _)
 clear h hx h3 h4 h5 hx1 hY hJ hJx h0
 refine callsIn_of_wp Tryz.func193 rfl trivial ?_ rfl
 simp only [Tryz.ntmps193, List.size_toArray, List.length_cons, List.length_nil, Nat.reduceAdd, Nat.reduceSub, Array.replicate_succ, Array.replicate_zero, List.push_toArray, List.append_toArray, List.nil_append, List.cons_append]
 gi_wp2_with (refine ⟨trivial, ?_⟩; gi_at_call 94; refine (callsIn_wide.2 hP.out).mono ?_; rintro r W1 ⟨lb, A, c, ps, rfl, hl, hh, hp, M⟩)
 have HB : Hid (∀ qs, ∀ g ∈ fps (lineL lb A c qs), W.heap.size ≤ g) := hide (fun qs g hg => by
  obtain ⟨r, hr, hrg⟩ := mem_fps.1 (fps_line.1 hg : g ∈ fps (lineL lb A c ps))
  rcases M.own r hr g hrg with h1 | h1
  ·simp at h1
  ·exact h1)
 have HI := hide (⟨hl, hh, hp, LineIn.of (rs := []) (by simpa using M), HY.out.2.1 _ _ _ HY.out.2.2.2 M.below⟩ : _ ∧ _ ∧ _ ∧ LineIn W1 lb A c ps ∧ J [] W1)
 clear hl hh hp M hP
 gi_loopw [] (fun wr => ∃ (out qs : List P3), Hid ((out ++ qs).Perm ps ∧ out.Pairwise leP ∧ (∀ x ∈ out, ∀ y ∈ qs, leP x y) ∧ HeapL qs) ∧ Hid (LineIn wr lb A c qs ∧ J (out.map P3.i) wr)) (fun wr => lineLen wr lb)
 case atStart => exact ⟨[], ps, hide ⟨List.Perm.refl _, List.Pairwise.nil, by simp, HI.out.2.1⟩, hide ⟨HI.out.2.2.2.1, HI.out.2.2.2.2⟩⟩
 case round =>
  obtain ⟨out, qs, HP, HL⟩ := hrel
  have hlen2 : out.length + qs.length = ps.length := by have := HP.out.1.length_eq; simpa using this
  have hql : qs.length ≤ 1048576 := by have := HI.out.1; omega
  have qL : wr.cell? ⟨lb, 0, none⟩ = some (.slice A qs.length c) := Sep.cell HL.out.1 0 0 rfl
  have tL : lb < wr.heap.size := Sep.lt HL.out.1 0 rfl
  have HS : Hid (W.heap.size ≤ wr.heap.size) := hide (by have := HB.out qs lb (mem_fps.2 ⟨_, List.mem_cons_self .., rfl⟩); omega)
  by_cases h0 : qs = []
  ·subst h0
   have qL2 : wr.cell? ⟨lb, 0, none⟩ = some (.slice A 0 c) := qL
   clear qL hlen2
   gi_wp2_with (refine ⟨trivial, ?_⟩; gi_at_call 144; refine (callsIn_wide.2 (len_any A 0 c _)).mono ?_; rintro r W2 ⟨rfl, rfl⟩)
   have hp2 := HP.out.1
   rw [List.append_nil] at hp2
   have he := wait_eq HP.out.2.1 (hp2.trans HI.out.2.2.1)
   have hJ := HL.out.2
   rw [he] at hJ
   go_end0
   exact ⟨⟨_, rfl⟩, .inl hJ⟩
  ·have hpos : 0 < qs.length := List.length_pos_iff.2 h0
   have hpi : (0 : Int) < (qs.length : Int) := by omega
   clear h0
   have hN := next_any qs lb A c hpos hql wr HP.out.2.2.2 HL.out.1
   have HR : Hid (∀ W3 q2, (at3 qs 0 :: q2).Perm qs → HeapL q2 → Sep (fps (lineL lb A c qs)) wr W3 (lineL lb A c q2) → YieldAt Fence.wide (2 - 1) Tryz.prog l #[.int .i64 (at3 qs 0).i] W3 fun e W' => (e = .returned (.bool true) ∧ (∃ out2, Hid ((out2 ++ q2).Perm ps ∧ out2.Pairwise leP ∧ (∀ x ∈ out2, ∀ y ∈ q2, leP x y) ∧ HeapL q2) ∧ Hid (LineIn W' lb A c q2 ∧ J (out2.map P3.i) W')) ∧ lineLen W' lb < lineLen wr lb) ∨ (e = .returned (.bool false) ∧ ∃ pre, pre <+: waitersM ts wk on2 ∧ Jx pre W')) := hide (fun W3 q2 hp2 hh2 M2 => by
    have hyq : at3 qs 0 ∈ qs := hp2.subset (List.mem_cons_self ..)
    have hq2 : ∀ z ∈ q2, z ∈ qs := fun z hz => hp2.subset (List.mem_cons_of_mem _ hz)
    have hperm : ((out ++ [at3 qs 0]) ++ q2).Perm ps := by
     rw [List.append_assoc]
     exact (List.Perm.append_left out hp2).trans HP.out.1
    have hpw : (out ++ [at3 qs 0]).Pairwise leP := List.pairwise_append.2 ⟨HP.out.2.1, by simp, fun a ha b hb => by simp at hb; subst hb; exact HP.out.2.2.1 a ha _ hyq⟩
    have hle : ∀ x ∈ out ++ [at3 qs 0], ∀ y ∈ q2, leP x y := fun a ha z hz => by
     rcases List.mem_append.1 ha with ha | ha
     ·exact HP.out.2.2.1 a ha z (hq2 z hz)
     ·simp at ha
      subst ha
      exact HP.out.2.2.2.first z (hq2 z hz)
    have hpre : out.map P3.i ++ [(at3 qs 0).i] <+: waitersM ts wk on2 := by
     obtain ⟨srt, hs1, hs2⟩ := sorted_of q2
     have he := wait_eq (ts := ts) (wt := wk) (on := on2) (out := (out ++ [at3 qs 0]) ++ srt) (List.pairwise_append.2 ⟨hpw, hs2, fun a ha b hb => hle a ha b (hs1.subset hb)⟩) (((List.Perm.append_left _ hs1).trans hperm).trans HI.out.2.2.1)
     rw [← he]
     exact ⟨srt.map P3.i, by simp⟩
    have hB3 : Below W.heap.size wr W3 := M2.belowB (HB.out qs) HS.out
    obtain ⟨fn, tmps, assign, body, hy, hR⟩ := HY.out.1 _ _ W3 (HY.out.2.1 _ _ _ HL.out.2 hB3) hpre
    refine ⟨fn, tmps, assign, body, hy, hR.mono ?_⟩
    rintro e W4 (⟨rfl, hJ4, hk4⟩ | ⟨rfl, hJ4⟩)
    ·have hL4 : LineIn W4 lb A c q2 := LineIn.above (LineIn.of (rs := []) (by simpa using M2)) (HB.out q2) hk4
     refine .inl ⟨rfl, ⟨out ++ [at3 qs 0], hide ⟨hperm, hpw, hle, hh2⟩, hide ⟨hL4, by rw [List.map_append]; exact hJ4⟩⟩, ?_⟩
     rw [lineLen_of (Sep.cell hL4 0 0 rfl), lineLen_of (Sep.cell HL.out.1 0 0 rfl)]
     have := hp2.length_eq
     simp at this
     omega
    ·exact .inr ⟨rfl, _, hpre, hJ4⟩)
   generalize (at3 qs 0).i = yi at hN HR
   generalize at3 qs 0 = y at hN HR
   gi_wp2_with (first | (refine ⟨trivial, ?_⟩; gi_at_call 144; refine (callsIn_wide.2 (len_any A qs.length c _)).mono ?_; rintro r W2 ⟨rfl, rfl⟩) | (refine ⟨trivial, ?_⟩; gi_at_call 145; refine (callsIn_wide.2 hN).mono ?_; rintro r W3 ⟨rfl, q2, hp2, hh2, M2⟩; obtain ⟨fn, tmps, assign, body, hy, hR⟩ := HR.out W3 q2 hp2 hh2 M2; clear hp2 hh2 M2))
   refine hR.mono ?_
   rintro e W4 (⟨rfl, ⟨out2, HP2, HL2⟩, hm⟩ | ⟨rfl, hx4⟩)
   ·have Hm := hide hm
    clear hm
    gi_wp2_with fail
    go_roundw
    case rel => exact ⟨out2, q2, HP2, HL2⟩
    case measure => exact Hm.out
   ·have HX := hide hx4
    clear hx4
    gi_wp2_with fail
    refine bodyPost_ret (results_none rfl _ _ _) rfl ?_
    exact ⟨⟨_, rfl⟩, .inr HX.out⟩
theorem above_set {B : Nat} (W : World) (b j : Nat) (u : Value) (hb : b < B) : Above B W (W.setCell ⟨b, j, none⟩ u) :=
 ⟨by simp [World.setCell], fun k hk _ => Below.heap_setCell W _ u k (by simp only; omega)⟩
theorem Sep.allLt {S : List Nat} {w W : World} {rs : List Res} (h : Sep S w W rs) : ∀ g ∈ fps rs, g < W.heap.size := fun g hg => by
 obtain ⟨r, hr, hrg⟩ := mem_fps.1 hg
 exact (h.here r hr).lt hrg
theorem wakeAll_any (ts : List T7) (A0 A1 A2 : Option Addr) (c0 n1 c1 n2 c2 : Nat) (tn : Int) (st : Bool) (g : Nat) (wk on2 v : Int) (w : World) (hlen : ts.length ≤ 1048576) (t0 : 0 ≤ tn) (t1 : tn ≤ 1000000) (h : Sep (fps [.blk g 35 #[.slice A0 ts.length c0, .slice A1 n1 c1, .slice A2 n2 c2, .int .i64 tn, .bool st], rT ts.length A0 c0 ts]) w w [.blk g 35 #[.slice A0 ts.length c0, .slice A1 n1 c1, .slice A2 n2 c2, .int .i64 tn, .bool st], rT ts.length A0 c0 ts]) :
 Calls Tryz.prog 135 #[.pointer (some ⟨g, 0, none⟩), .int .i64 wk, .int .i64 on2, .int .i64 v] w fun r w' => ∃ (us : List T7) (tn' cnt : Int), r = .returned (.int .i64 cnt) ∧ us.length = ts.length ∧ Sep (fps [.blk g 35 #[.slice A0 ts.length c0, .slice A1 n1 c1, .slice A2 n2 c2, .int .i64 tn, .bool st], rT ts.length A0 c0 ts]) w w' [.blk g 35 #[.slice A0 ts.length c0, .slice A1 n1 c1, .slice A2 n2 c2, .int .i64 tn', .bool st], rT ts.length A0 c0 us] ∧ ((okAll (waitersM ts wk on2) v tn = true ∧ cnt = ((waitersM ts wk on2).length : Int) ∧ us = wakeAllT (waitersM ts wk on2) ts tn v ∧ tn' = tn + ((waitersM ts wk on2).length : Int)) ∨ (okAll (waitersM ts wk on2) v tn = false ∧ cnt = -1)) := by
 obtain ⟨S, hS⟩ : ∃ S, S = fps [.blk g 35 #[.slice A0 ts.length c0, .slice A1 n1 c1, .slice A2 n2 c2, .int .i64 tn, .bool st], rT ts.length A0 c0 ts] := ⟨_, rfl⟩
 rw [← hS] at h ⊢
 clear hS
 have H := hide h
 clear h
 have hSeq : Hid (∀ (y3 y4 y5 : Nat) (W : World), W.cell? ⟨g, 0, none⟩ = some (.slice A0 ts.length c0) → Row W A0 (tcells ts) → W.cell? ⟨y3, 0, none⟩ = some (.pointer (some ⟨g, 0, none⟩)) → W.cell? ⟨y4, 0, none⟩ = some (.int .i64 wk) → W.cell? ⟨y5, 0, none⟩ = some (.int .i64 on2) → SeqS Fence.wide 2 Tryz.prog 193 #[.pointer (some ⟨y3, 0, none⟩), .pointer (some ⟨y4, 0, none⟩), .pointer (some ⟨y5, 0, none⟩)] (fun j : Int => #[Value.int .i64 j]) (waitersM ts wk on2) W) := hide (fun y3 y4 y5 W h1 h2 h3 h4 h5 => waiters_seq ts g A0 c0 wk on2 y3 y4 y5 W hlen h1 h2 h3 h4 h5)
 have HL := hide (⟨waitersM_nodup ts wk on2, fun j => waitersM_mem (ts := ts) (wt := wk) (on := on2) (j := j)⟩ : _ ∧ _)
 generalize waitersM ts wk on2 = L at hSeq HL ⊢
 refine (callsIn_wide (n := 3)).1 ?_
 refine callsIn_of_wp_marks Tryz.func135 rfl trivial ?_ rfl
 simp only [Tryz.ntmps135, List.size_toArray, List.length_cons, List.length_nil, Nat.reduceAdd, Nat.reduceSub, Array.replicate_succ, Array.replicate_zero, List.push_toArray, List.append_toArray, List.nil_append, List.cons_append]
 gi_wp2_with fail
 have M := ((((H.out.alloc 82 #[.pointer (some ⟨g, 0, none⟩)] w.heap.size rfl).alloc 2 #[.int .i64 v] (w.heap.size + 1) (by simp)).alloc 2 #[.int .i64 0] (w.heap.size + 1 + 1) (by simp)).alloc 2 #[.int .i64 0] (w.heap.size + 1 + 1 + 1) (by simp))
 clear H
 generalize (((w.alloc (.cells #[.pointer (some ⟨g, 0, none⟩)] 82)).alloc (.cells #[.int .i64 v] 2)).alloc (.cells #[.int .i64 0] 2)).alloc (.cells #[.int .i64 0] 2) = W4 at M ⊢
 obtain ⟨bx, hbx⟩ : ∃ bx, bx = w.heap.size := ⟨_, rfl⟩
 obtain ⟨b7, hb7⟩ : ∃ b7, b7 = w.heap.size + 1 := ⟨_, rfl⟩
 obtain ⟨b8, hb8⟩ : ∃ b8, b8 = w.heap.size + 1 + 1 := ⟨_, rfl⟩
 obtain ⟨b9, hb9⟩ : ∃ b9, b9 = w.heap.size + 1 + 1 + 1 := ⟨_, rfl⟩
 rw [← hb9, ← hb8, ← hb7, ← hbx] at M ⊢
 clear hb9 hb8 hb7 hbx
 refine ⟨trivial, ?_⟩
 refine (callsIn_wide.2 (waiters_any g wk on2 W4)).mono ?_
 rintro r W7 ⟨rfl, hW7⟩
 have M7 := ((M.alloc 82 #[.pointer (some ⟨g, 0, none⟩)] W4.heap.size rfl).alloc 2 #[.int .i64 wk] (W4.heap.size + 1) (by simp)).alloc 2 #[.int .i64 on2] (W4.heap.size + 2) (by simp)
 rw [← hW7] at M7
 clear M hW7
 obtain ⟨y3, hy3⟩ : ∃ y3, y3 = W4.heap.size := ⟨_, rfl⟩
 obtain ⟨y4, hy4⟩ : ∃ y4, y4 = W4.heap.size + 1 := ⟨_, rfl⟩
 obtain ⟨y5, hy5⟩ : ∃ y5, y5 = W4.heap.size + 2 := ⟨_, rfl⟩
 rw [← hy5, ← hy4, ← hy3] at M7 ⊢
 clear hy5 hy4 hy3
 have hseq := hSeq.out y3 y4 y5 W7 (M7.cell 7 0 rfl) (M7.rowS 8 rfl) (M7.cell 2 0 rfl) (M7.cell 1 0 rfl) (M7.cell 0 0 rfl)
 have M := M7.drop 3
 clear M7
 replace M : Sep S w W7 [.blk b9 2 #[.int .i64 0], .blk b8 2 #[.int .i64 0], .blk b7 2 #[.int .i64 v], .blk bx 82 #[.pointer (some ⟨g, 0, none⟩)], .blk g 35 #[.slice A0 ts.length c0, .slice A1 n1 c1, .slice A2 n2 c2, .int .i64 tn, .bool st], rT ts.length A0 c0 ts] := M
 have hlt := hide M.allLt
 have hsz : w.heap.size ≤ W7.heap.size := M.size
 have HSEQ := hide hseq
 have HM := hide M
 clear hseq M
 gi_wp2_with fail
 refine wpIn_range_s (F := Fence.wide) (n := 3) rfl (by decide) (enc := fun j : Int => #[Value.int .i64 j]) (gf := 193) (lb := #[.pointer (some ⟨y3, 0, none⟩), .pointer (some ⟨y4, 0, none⟩), .pointer (some ⟨y5, 0, none⟩)]) rfl trivial (Go.Proofs.enters_of Tryz.func193 (by kernel_rfl) rfl) HSEQ.out (Below.refl _ _) (fun _ => rfl)
  (fun pre W => Hid (pre = [] ∨ (btw v 0 9999 = true ∧ tn + pre.length ≤ 1000000)) ∧ Hid (Sep S w W [.blk b9 2 #[.int .i64 pre.length], .blk b8 2 #[.int .i64 0], .blk b7 2 #[.int .i64 v], .blk bx 82 #[.pointer (some ⟨g, 0, none⟩)], .blk g 35 #[.slice A0 ts.length c0, .slice A1 n1 c1, .slice A2 n2 c2, .int .i64 (tn + pre.length), .bool st], rT ts.length A0 c0 (wakeAllT pre ts tn v)]))
  (fun _ _ W => okAll L v tn = false ∧ ∃ (us : List T7) (tn' cn : Int), us.length = ts.length ∧ Sep S w W [.blk b9 2 #[.int .i64 cn], .blk b8 2 #[.int .i64 (-1)], .blk b7 2 #[.int .i64 v], .blk bx 82 #[.pointer (some ⟨g, 0, none⟩)], .blk g 35 #[.slice A0 ts.length c0, .slice A1 n1 c1, .slice A2 n2 c2, .int .i64 tn', .bool st], rT ts.length A0 c0 us])
  (fun s A C hs hb => ⟨hs.1, hide (hs.2.out.abide hlt.out hsz hb)⟩)
  (fun _ s A C hs hb => by
   obtain ⟨h1, us, tn', cn, h2, h3⟩ := hs
   exact ⟨h1, us, tn', cn, h2, h3.abide hlt.out hsz hb⟩)
  ⟨hide (.inl rfl), hide (by simpa [wakeAllT] using HM.out)⟩
  (fun x => { tmps := #[.pointer (some ⟨g, 0, none⟩), .int .i64 wk, .int .i64 on2, .int .i64 v, .pointer (some ⟨bx, 0, none⟩), undef, undef, .pointer (some ⟨b7, 0, none⟩), .pointer (some ⟨b8, 0, none⟩), .pointer (some ⟨b9, 0, none⟩), .int .i64 x, .pointer (some ⟨g, 0, none⟩), .int .i64 wk, .int .i64 on2, .func (.func 193) #[] #[.pointer (some ⟨y3, 0, none⟩), .pointer (some ⟨y4, 0, none⟩), .pointer (some ⟨y5, 0, none⟩)], .int .i64 x, undef, undef, undef, undef, undef, undef, undef, undef], defers := [] }) ?assign ?body ?done ?stop
 case assign =>
  intro l x W K hK
  gi_wp2_with fail
  exact hK
 case body =>
  rintro l pre x W hszW ⟨HP, HM2⟩ hpre
  have hxL : x ∈ L := hpre.subset (by simp)
  obtain ⟨k, y, rfl, hkl, hky, hys, _, _⟩ := HL.out.2 x hxL
  have hpreL : pre <+: L := (List.prefix_append pre [(k : Int)]).trans hpre
  have hnot : (k : Int) ∉ pre := fun hm => by
   have hnd := HL.out.1.sublist hpre.sublist
   exact (List.nodup_append.1 hnd).2.2 _ hm _ (by simp) rfl
  have hnn : ∀ j ∈ pre, 0 ≤ j := fun j hj => by
   obtain ⟨k2, _, rfl, _⟩ := HL.out.2 j (hpreL.subset hj)
   omega
  have hlt2 : pre.length < L.length := by
   have := hpre.length_le
   simp at this; omega
  have hus : (wakeAllT pre ts tn v)[k]? = some y := by rw [wakeAllT_other _ _ _ _ _ hnot hnn]; exact hky
  have hul : (wakeAllT pre ts tn v).length = ts.length := wakeAllT_length _ _ _ _
  have hsn := wakeAllT_snoc pre (k : Int) ts tn v
  rw [show ((k : Int)).toNat = k from rfl, taskAt_of hus] at hsn
  obtain ⟨us, hus2⟩ : ∃ us, us = wakeAllT pre ts tn v := ⟨_, rfl⟩
  rw [← hus2] at HM2 hus hul hsn
  clear hus2
  obtain ⟨s, lv, o, wt, on, v0, t⟩ := y
  simp only at hys
  subst hys
  have HC := hide (⟨HP.out, hus, hul, hsn, hpreL, hlt2, hkl, hxL⟩ : _ ∧ _ ∧ _ ∧ _ ∧ _ ∧ _ ∧ _ ∧ _)
  clear hus hsn hpreL hlt2 hnot hnn hky hkl HP hxL
  obtain ⟨t9, q9, f9⟩ := HM2.out.f1 0 rfl
  obtain ⟨t8, q8, f8⟩ := HM2.out.f1 1 rfl
  obtain ⟨t7, q7, f7⟩ := HM2.out.f1 2 rfl
  obtain ⟨tx, qx, fx⟩ := HM2.out.f1 3 rfl
  have hlt9 : b9 < W7.heap.size := hlt.out b9 (mem_fps.2 ⟨_, List.mem_cons_self .., rfl⟩)
  have hlt8 : b8 < W7.heap.size := hlt.out b8 (mem_fps.2 ⟨_, List.mem_cons_of_mem _ (List.mem_cons_self ..), rfl⟩)
  gi_wp2_with fail
  refine ⟨trivial, ?_⟩
  have MF : Sep S w W [.blk g 35 #[.slice A0 ts.length c0, .slice A1 n1 c1, .slice A2 n2 c2, .int .i64 (tn + pre.length), .bool st], rT ts.length A0 c0 us, .blk b9 2 #[.int .i64 pre.length], .blk b8 2 #[.int .i64 0], .blk b7 2 #[.int .i64 v], .blk bx 82 #[.pointer (some ⟨g, 0, none⟩)]] := HM2.out.perm (List.perm_append_comm (l₁ := [_, _, _, _]) (l₂ := [_, _]))
  clear HM2 q9 f9 q8 f8 q7 f7 qx fx t9 t8 t7 tx
  by_cases hc : btw v 0 9999 = true ∧ tn + pre.length < 1000000
  ·have hcan : canB us k v (tn + pre.length) = true := by
    have h1 : taskAt us k = _ := taskAt_of HC.out.2.1
    simp only [canB, isInB, h1, hc.1, hul]
    have h2 := HC.out.2.2.2.2.2.2.1
    simp [btw]
    omega
   have hw := wake_yes us A0 A1 A2 c0 n1 c1 n2 c2 (tn + pre.length) st g k v 3 lv o wt on v0 t W (by omega) (by omega) HC.out.2.1 (by rw [hul]; exact Sep.same (ps := [.blk g 35 #[.slice A0 ts.length c0, .slice A1 n1 c1, .slice A2 n2 c2, .int .i64 (tn + pre.length), .bool st], rT ts.length A0 c0 us]) MF (Below.refl _ _)) hcan
   rw [hul, ← HC.out.2.2.2.1] at hw
   refine (CallsIn.inRound l (callsIn_wide.2 hw)).mono ?_
   clear hw hcan
   rintro r W2 ⟨rfl, M2⟩
   have hPT : ∀ g' ∈ fps [.blk g 35 #[.slice A0 ts.length c0, .slice A1 n1 c1, .slice A2 n2 c2, .int .i64 (tn + pre.length), .bool st], rT ts.length A0 c0 us], g' < W7.heap.size := by
    intro g' hg'
    obtain ⟨r, hr, hrg⟩ := mem_fps.1 hg'
    simp only [List.mem_cons, List.not_mem_nil, or_false] at hr
    rcases hr with rfl | rfl
    ·exact hlt.out g' (mem_fps.2 ⟨.blk g 35 #[.slice A0 ts.length c0, .slice A1 n1 c1, .slice A2 n2 c2, .int .i64 tn, .bool st], by simp, hrg⟩)
    ·exact hlt.out g' (mem_fps.2 ⟨rT ts.length A0 c0 ts, by simp, hrg⟩)
   have hA : Above W7.heap.size W W2 := M2.above hPT
   clear hPT
   have M3 := (Sep.comp (ps := [.blk g 35 #[.slice A0 ts.length c0, .slice A1 n1 c1, .slice A2 n2 c2, .int .i64 (tn + pre.length), .bool st], rT ts.length A0 c0 us]) (rs := [.blk b9 2 #[.int .i64 pre.length], .blk b8 2 #[.int .i64 0], .blk b7 2 #[.int .i64 v], .blk bx 82 #[.pointer (some ⟨g, 0, none⟩)]]) MF M2).perm (List.perm_append_comm (l₁ := [_, _]) (l₂ := [_, _, _, _]))
   clear M2 MF
   obtain ⟨t9, q9, f9⟩ := Sep.f1 M3 0 rfl
   gi_wp2_with fail
   refine ⟨hA.trans (above_set _ _ _ _ hlt9), hide (.inr ⟨hc.1, ?_⟩), hide ?_⟩
   ·rw [List.length_append]; simp only [List.length_cons, List.length_nil]; omega
   ·have M4 := M3.set 0 rfl 0 (.int .i64 (pre.length + 1))
    rw [show ((pre ++ [(k : Int)]).length : Int) = pre.length + 1 by simp, show tn + ((pre.length : Int) + 1) = tn + pre.length + 1 by omega]
    exact M4
  ·have hno : okAll L v tn = false := by
    have h2 := HC.out.2.2.2.2.2.1
    have hne : L.isEmpty = false := by
     cases L with
     | nil => simp at h2
     | cons a r => rfl
    rcases hb : btw v 0 9999 with _ | _
    ·simp only [okAll, hb, hne, Bool.false_and, Bool.or_false]
    ·have h3 : ¬ tn + pre.length < 1000000 := fun h => hc ⟨hb, h⟩
     have h4 : ¬ tn + L.length ≤ 1000000 := by omega
     simp only [okAll, hb, hne, Bool.true_and, Bool.false_or, decide_eq_false h4]
   have hcan : canB us k v (tn + pre.length) = false := by
    rw [Bool.eq_false_iff]
    intro h1
    simp only [canB, Bool.and_eq_true, decide_eq_true_eq] at h1
    exact hc h1.2
   have hw := wake_no us A0 A1 A2 c0 n1 c1 n2 c2 (tn + pre.length) st g k v W (by omega) (by rw [hul]; exact MF.blk 0 rfl) (MF.rowS 1 rfl) hcan
   refine (CallsIn.inRound l (callsIn_wide.2 hw)).mono ?_
   clear hw hcan
   rintro r W2 ⟨rfl, g1⟩
   have hA : Above W7.heap.size W W2 := ⟨g1.size, fun k _ hk => g1.block k hk⟩
   have M3 := (MF.call g1).perm (List.perm_append_comm (l₁ := [_, _]) (l₂ := [_, _, _, _]))
   clear g1 MF
   obtain ⟨t8, q8, f8⟩ := Sep.f1 M3 1 rfl
   gi_wp2_with fail
   exact ⟨hA.trans (above_set _ _ _ _ hlt8), hno, us, tn + pre.length, pre.length, hul, M3.set 1 rfl 0 _⟩
 case done =>
  rintro D W hD ⟨HP, HM2⟩ hK
  obtain ⟨t9, q9, f9⟩ := HM2.out.f1 0 rfl
  obtain ⟨t8, q8, f8⟩ := HM2.out.f1 1 rfl
  have hlt8 : b8 < W7.heap.size := hlt.out b8 (mem_fps.2 ⟨_, List.mem_cons_of_mem _ (List.mem_cons_self ..), rfl⟩)
  have hDlt : D < W.heap.size := (Array.getElem?_eq_some_iff.1 hK).1
  have HK := hide hK
  clear hK
  gi_wp2_with fail
  have hK2 : (W.setCell ⟨b8, 0, none⟩ (.int .i64 L.length)).heap[D]? = some (.deferred (some [])) := (Below.heap_setCell W _ _ D (by simp only; omega)).trans HK.out
  have M2 := (HM2.out.set 1 rfl 0 (.int .i64 L.length)).abide hlt.out hsz (below_put _ D (.deferred none) hD (by simp [World.setCell]; omega))
  refine ⟨by simp, .inl ⟨_, _, rfl, run_takeDeferred hK2, ?_⟩⟩
  have q8' := M2.cell 1 0 rfl
  have hok : okAll L v tn = true := by
   rcases HP.out with h1 | h1
   ·simp [okAll, h1]
   ·simp [okAll, h1.1, h1.2]
  exact ⟨.int .i64 L.length, by simp [results, Tryz.results135, go_sem, q8'], _, _, _, rfl, wakeAllT_length _ _ _ _, M2.drop 4, .inl ⟨hok, rfl, rfl, rfl⟩⟩
 case stop =>
  rintro D pre W hD hpre ⟨hno, us, tn', cn, hul, M⟩ hK
  have hDlt : D < W.heap.size := (Array.getElem?_eq_some_iff.1 hK).1
  have M2 := M.abide hlt.out hsz (below_put _ D (.deferred none) hD (by omega))
  have HM2 := hide M2
  have HK := hide hK
  clear M M2 hK
  gi_wp2_with fail
  refine ⟨by simp, .inl ⟨_, _, rfl, run_takeDeferred HK.out, ?_⟩⟩
  have q8' := HM2.out.cell 1 0 rfl
  exact ⟨.int .i64 (-1), by simp [results, Tryz.results135, go_sem, q8'], us, tn', -1, rfl, hul, HM2.out.drop 4, .inr ⟨hno, rfl⟩⟩
theorem runM_low (ts : List T7) (wk i : Int) : runM ts wk i = -1 ∨ i ≤ runM ts wk i := by
 induction ts generalizing i with
 | nil => exact .inl rfl
 | cons t r ih =>
  simp only [runM]
  split
  ·exact .inr (Int.le_refl _)
  ·exact (ih (i + 1)).imp id (fun h => by omega)
theorem runM_none {ts : List T7} {wk : Int} (h : runM ts wk 0 < 0) : runM ts wk 0 = -1 :=
 (runM_low ts wk 0).elim id (fun h1 => by omega)
theorem fit_parts {a b c d e : Int} {ts : List T7} {tn : Int} {k : Nat} {x : T7} (h : fitB a b c d e ts tn k x = true) : planB a b c d e = true ∧ btw x.s 1 5 = true ∧ btw x.l 0 (c - 1) = true ∧ ownB a x.s x.o = true ∧ waitB b d e x.s x.wt x.on = true ∧ btw x.v 0 9999 = true ∧ btw x.t 0 1000000 = true ∧ x.t < tn ∧ soloTo ts k x.s x.o = true ∧ waitsOk ts.length k x.wt x.on = true := by
 simp only [fitB, taskB, Bool.and_eq_true, decide_eq_true_eq] at h
 obtain ⟨⟨h1, h2, h3, h4, h5, h6, h7⟩, h8, h9, h10⟩ := h
 exact ⟨h1, h2, h3, h4, h5, h6, h7, h8, h9, h10⟩
theorem fit_mk {a b c d e : Int} {ts : List T7} {tn : Int} {k : Nat} {x : T7} (h1 : planB a b c d e = true) (h2 : btw x.s 1 5 = true) (h3 : btw x.l 0 (c - 1) = true) (h4 : ownB a x.s x.o = true) (h5 : waitB b d e x.s x.wt x.on = true) (h6 : btw x.v 0 9999 = true) (h7 : btw x.t 0 1000000 = true) (h8 : x.t < tn) (h9 : soloTo ts k x.s x.o = true) (h10 : waitsOk ts.length k x.wt x.on = true) : fitB a b c d e ts tn k x = true := by
 simp only [fitB, taskB, Bool.and_eq_true, decide_eq_true_eq]
 exact ⟨⟨h1, h2, h3, h4, h5, h6, h7⟩, h8, h9, h10⟩
theorem wait_no {b d e s : Int} (hs : s ≠ 3) : waitB b d e s 0 0 = true := by simp [waitB, hs]
theorem solo_no {ts : List T7} {k : Nat} {s o : Int} (hs : s ≠ 2) : soloTo ts k s o = true := by simp [soloTo, hs]
theorem waits_no {n k : Nat} {on : Int} : waitsOk n k 0 on = true := by simp [waitsOk]
theorem own_no {a s : Int} (hs : s ≠ 2) : ownB a s (-1) = true := by simp [ownB, hs]
theorem pool_fit {a b c d e : Int} {ts : List T7} {ks : List Int} {fs : List F2} {tn : Int} {k : Nat} {x : T7} (h : poolB a b c d e ts ks fs tn = true) (hx : ts[k]? = some x) : fitB a b c d e ts tn k x = true := (tasksB_iff ..).1 (poolB_parts h).2.2.2 k x hx
theorem runM_runs {ts : List T7} {wk i : Int} {k : Nat} (hi : 0 ≤ i) (h : runM ts wk i = i + k) : ∃ x, ts[k]? = some x ∧ x.s = 2 ∧ x.o = wk := by
 induction ts generalizing i k with
 | nil => simp only [runM] at h; omega
 | cons t r ih =>
  simp only [runM] at h
  split at h
  ·rename_i hm
   obtain rfl : k = 0 := by omega
   exact ⟨t, rfl, hm.1, hm.2⟩
  ·cases k with
   | zero => rcases runM_low r wk (i + 1) with h1 | h1 <;> omega
   | succ k =>
    obtain ⟨x, hx, h1⟩ := ih (i := i + 1) (k := k) (by omega) (by omega)
    exact ⟨x, by simpa using hx, h1⟩
theorem wakeAll_right2 {a b c d e : Int} {ks : List Int} {fs : List F2} {v : Int} (hv : btw v 0 9999 = true) : ∀ (L : List Int) (ts : List T7) (tn : Int), poolB a b c d e ts ks fs tn = true → L.Nodup → (∀ j ∈ L, ∃ (k : Nat) (x : T7), j = k ∧ ts[k]? = some x ∧ x.s = 3) → tn + L.length ≤ 1000000 → poolB a b c d e (wakeAllT L ts tn v) ks fs (tn + L.length) = true
 | [], ts, tn, hp, _, _, _ => by simpa [wakeAllT] using hp
 | j :: r, ts, tn, hp, hn, hm, hb => by
  obtain ⟨k, x, rfl, hx, hs⟩ := hm j (List.mem_cons_self ..)
  have h1 := wake_right (v := v) hp hx hs hv (by simp at hb; omega)
  obtain ⟨hn1, hn2⟩ := List.nodup_cons.1 hn
  have h2 := wakeAll_right2 hv r (ts.set k (wakeT x tn v)) (tn + 1) h1 hn2 (fun i hi => by
   obtain ⟨k2, x2, rfl, hx2, hs2⟩ := hm i (List.mem_cons_of_mem _ hi)
   refine ⟨k2, x2, rfl, ?_, hs2⟩
   rw [List.getElem?_set_ne (by intro e; apply hn1; rw [e]; exact hi)]
   exact hx2) (by simp at hb; omega)
  simp only [wakeAllT, Int.toNat_natCast, taskAt_of hx, List.length_cons]
  rw [show tn + ((r.length + 1 : Nat) : Int) = tn + 1 + (r.length : Int) by omega]
  exact h2
/-- Those who wait are woken: the pool is right just where there is a turn for each. -/
theorem wakeAll_ok {a b c d e : Int} {ts : List T7} {ks : List Int} {fs : List F2} {tn v wt on : Int} (hv : btw v 0 9999 = true) (h : poolB a b c d e ts ks fs tn = true) : poolB a b c d e (wakeAllT (waitersM ts wt on) ts tn v) ks fs (tn + (waitersM ts wt on).length) = okAll (waitersM ts wt on) v tn := by
 by_cases hb : tn + ((waitersM ts wt on).length : Int) ≤ 1000000
 ·rw [wakeAll_right2 hv _ ts tn h (waitersM_nodup ts wt on) (fun j hj => by
   obtain ⟨k, x, h1, _, h2, h3, _⟩ := waitersM_mem hj
   exact ⟨k, x, h1, h2, h3⟩) hb]
  simp [okAll, hv, hb]
 ·rw [turn_over hb]
  have he : (waitersM ts wt on).isEmpty = false := by
   cases hL : waitersM ts wt on with
   | nil => rw [hL] at hb; simp at hb; have := (poolB_parts h).2.1; omega
   | cons i r => rfl
  simp only [okAll, he, hv, Bool.false_or, Bool.true_and, decide_eq_false hb]
section
variable {a b c d e : Int} {ts : List T7} {ks : List Int} {fs : List F2} {tn : Int}
theorem parkP_right {m : Nat} {x : T7} {wt on : Int} (h : poolB a b c d e ts ks fs tn = true) (hx : ts[m]? = some x) (ht : tn < 1000000) (hw : waitB b d e 3 wt on = true) (hk : waitsOk ts.length m wt on = true) : poolB a b c d e (ts.set m (parkT x tn wt on)) ks fs (tn + 1) = true := by
 obtain ⟨h1, h2, h3, h4, h5, h6, h7, h8, h9, h10⟩ := fit_parts (pool_fit h hx)
 obtain ⟨hp, hb, _, hT⟩ := poolB_parts h
 refine poolB_turn h (by simp) (by omega) (tasksB_set hT (by omega) (by simp [parkT]) ?_)
 exact fit_mk hp (by simp [parkT, btw]) h3 (own_no (by simp [parkT])) hw h6 (btw_t hb.1 hb.2) (by simp only [parkT]; omega) (solo_no (by simp [parkT])) (by rw [List.length_set]; exact hk)
theorem own_free {s o : Int} (h : ownB a s o = true) (hs : s ≠ 2) : o = -1 := by
 simp only [ownB, if_neg hs, beq_iff_eq] at h
 exact h
theorem cancelP_right {k : Nat} {s l o wt on v t : Int} (h : poolB a b c d e ts ks fs tn = true) (hx : ts[k]? = some ⟨s, l, o, wt, on, v, t⟩) (hs : s ≠ 2) : poolB a b c d e (ts.set k ⟨5, l, o, 0, 0, v, t⟩) ks fs tn = true := by
 obtain ⟨h1, h2, h3, h4, h5, h6, h7, h8, h9, h10⟩ := fit_parts (pool_fit h hx)
 obtain ⟨hp, hb, _, hT⟩ := poolB_parts h
 simp only at h2 h3 h4 h5 h6 h7 h8 h9 h10
 obtain rfl := own_free h4 hs
 refine poolB_turn h (by simp) hb (tasksB_set hT (by omega) (by simp) ?_)
 exact fit_mk hp (by simp [btw]) h3 (own_no (by simp)) (wait_no (by simp)) h6 h7 h8 (solo_no (by simp)) waits_no
theorem set_so {k : Nat} {x y : T7} (hx : ts[k]? = some x) (h1 : y.s = x.s) (h2 : y.o = x.o) : (ts.set k y).map (fun u => (u.s, u.o)) = ts.map (fun u => (u.s, u.o)) := by
 apply List.ext_getElem?
 intro i
 rw [List.getElem?_map, List.getElem?_map, List.getElem?_set]
 split
 ·rename_i e
  subst e
  split
  ·rw [hx]
   simp [h1, h2]
  ·rename_i hn
   rw [List.getElem?_eq_none (by omega)]
 ·rfl
theorem soloTo_so {us : List T7} (h : us.map (fun u => (u.s, u.o)) = ts.map (fun u => (u.s, u.o))) (j : Nat) (s o : Int) : soloTo us j s o = soloTo ts j s o := by
 have e : ∀ vs : List T7, (vs.take j).all (fun u => !(u.s == 2 && u.o == o)) = ((vs.map (fun u => (u.s, u.o))).take j).all (fun p => !(p.1 == 2 && p.2 == o)) := by
  intro vs
  rw [← List.map_take, List.all_map]
  rfl
 unfold soloTo
 rw [e us, e ts, h]
theorem levelP_right {k : Nat} {s l o wt on v t lv : Int} (h : poolB a b c d e ts ks fs tn = true) (hx : ts[k]? = some ⟨s, l, o, wt, on, v, t⟩) (hl : btw lv 0 (c - 1) = true) : poolB a b c d e (ts.set k ⟨s, lv, o, wt, on, v, t⟩) ks fs tn = true := by
 obtain ⟨hp, hb, _, hT⟩ := poolB_parts h
 refine poolB_turn h (by simp) hb ?_
 have hso := soloTo_so (set_so (y := ⟨s, lv, o, wt, on, v, t⟩) hx rfl rfl)
 rw [tasksB_iff] at hT ⊢
 intro j u hj
 rw [List.getElem?_set] at hj
 split at hj
 ·rename_i e1
  subst e1
  split at hj
  ·injection hj with hj
   subst hj
   obtain ⟨g1, g2, g3, g4, g5, g6, g7, g8, g9, g10⟩ := fit_parts (hT k _ hx)
   exact fit_mk hp g2 hl g4 g5 g6 g7 g8 (by rw [hso]; exact g9) (by rw [List.length_set]; exact g10)
  ·cases hj
 ·obtain ⟨g1, g2, g3, g4, g5, g6, g7, g8, g9, g10⟩ := fit_parts (hT j u hj)
  exact fit_mk hp g2 g3 g4 g5 g6 g7 g8 (by rw [hso]; exact g9) (by rw [List.length_set]; exact g10)
theorem pool_len {a b c d e : Int} {ts : List T7} {ks : List Int} {fs : List F2} {tn : Int} (h : poolB a b c d e ts ks fs tn = true) : (ts.length : Int) ≤ b ∧ (ks.length : Int) = d ∧ (fs.length : Int) = e := by
 simp only [poolB, Bool.and_eq_true, decide_eq_true_eq] at h
 exact ⟨h.2.2.1.1, h.2.2.2.1.2, h.2.2.2.2.2⟩
theorem task_nat {id : Int} {ts : List T7} (h : btw id 0 ((ts.length : Int) - 1) = true) : ∃ (k : Nat) (s l o wt on v t : Int), id = k ∧ k < ts.length ∧ ts[k]? = some ⟨s, l, o, wt, on, v, t⟩ := by
 simp [btw] at h
 obtain ⟨k, rfl⟩ := Int.eq_ofNat_of_zero_le h.1
 have hk : k < ts.length := by omega
 exact ⟨k, ts[k].s, ts[k].l, ts[k].o, ts[k].wt, ts[k].on, ts[k].v, ts[k].t, rfl, hk, by rw [List.getElem?_eq_getElem hk]⟩
end
end Go.Proofs.YtfkdfkoigojciaaGreatDoor
