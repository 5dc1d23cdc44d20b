/- Ended of the program and of the model answer alike. Lists no longer than a million. -/
import Derived.Shelf.Abstract
import Derived.Test.YtgncjcnobojgbaaPLived
import Derived.Test.YtgncjcnobojgbaaPRight
import Derived.Test.YtgncjcnobojgbaaPEnd
import Derived.Test.YtgncjcnobojgbaaSEnded
namespace Go.Proofs.Ytgncjcnobojgbaa
open Go.RowKit
set_option linter.unusedVariables false

theorem Sep.rot {S : List Nat} {w W : World} {r : Res} {rs : List Res} (h : Sep S w W (r :: rs)) : Sep S w W (rs ++ [r]) := h.perm (List.perm_append_comm (l₁ := [r]) (l₂ := rs))
/-- A pool and an answer, part by part. -/
def GaveA (us : List T7) (ks : List Int) (fs : List F2) (tn : Int) (st : Bool) (rp ou : Int) (w : World) (r : Ending) (w' : World) : Prop :=
  ∃ (B0 B1 B2 : Option Addr) (d0 d1 d2 : Nat), r = .returned (.tuple #[.agg #[.slice B0 us.length d0, .slice B1 ks.length d1, .slice B2 fs.length d2, .int .i64 tn, .bool st], .agg #[.int .i64 rp, .int .i64 ou]]) ∧ Sep [] w w' [rT us.length B0 d0 us, rK ks.length B1 d1 ks, rF fs.length B2 d2 fs]

theorem Sep.enter6 {o1 o2 o3 o4 o5 o6 : Array Value} {t1 t2 t3 t4 t5 t6 : TypeId} (w : World) : Sep [] w ((((((w.alloc (.cells o1 t1)).alloc (.cells o2 t2)).alloc (.cells o3 t3)).alloc (.cells o4 t4)).alloc (.cells o5 t5)).alloc (.cells o6 t6)) [.blk (w.heap.size + 5) t6 o6, .blk (w.heap.size + 4) t5 o5, .blk (w.heap.size + 3) t4 o4, .blk (w.heap.size + 2) t3 o3, .blk (w.heap.size + 1) t2 o2, .blk w.heap.size t1 o1] :=
  (Sep.enter5 w).alloc t6 o6 _ (by simp)

set_option maxRecDepth 100000 in
set_option maxHeartbeats 400000 in
theorem endedC_no (ts : List T7) (ks : List Int) (fs : List F2) (C0 C1 C2 : Option Addr) (e0 e1 e2 : Nat) (tn : Int) (st : Bool) (g : Nat) (wk : Int) (vv : Int) (bwk : Nat) (bvv : Nat) (rp : Int) (V : World) (h : Sep (fps [.blk g 34 #[.slice C0 ts.length e0, .slice C1 ks.length e1, .slice C2 fs.length e2, .int .i64 tn, .bool st], rT ts.length C0 e0 ts, rK ks.length C1 e1 ks, rF fs.length C2 e2 fs]) V V [.blk g 34 #[.slice C0 ts.length e0, .slice C1 ks.length e1, .slice C2 fs.length e2, .int .i64 tn, .bool st], rT ts.length C0 e0 ts, rK ks.length C1 e1 ks, rF fs.length C2 e2 fs]) (hwk : V.cell? ⟨bwk, 0, none⟩ = some (.int .i64 wk)) (lwk : bwk < V.heap.size) (hvv : V.cell? ⟨bvv, 0, none⟩ = some (.int .i64 vv)) (lvv : bvv < V.heap.size)
    (hb : ∀ V', Sep (fps [.blk g 34 #[.slice C0 ts.length e0, .slice C1 ks.length e1, .slice C2 fs.length e2, .int .i64 tn, .bool st], rT ts.length C0 e0 ts, rK ks.length C1 e1 ks, rF fs.length C2 e2 fs]) V' V' [.blk g 34 #[.slice C0 ts.length e0, .slice C1 ks.length e1, .slice C2 fs.length e2, .int .i64 tn, .bool st], rT ts.length C0 e0 ts, rK ks.length C1 e1 ks, rF fs.length C2 e2 fs] → Calls Try.prog 103 #[.pointer (some ⟨g, 0, none⟩), .int .i64 wk, .int .i64 vv] V' (fun r w' => r = .panicked [{ v := .iface 148 (.int .i64 rp), recovered := false }] ∧ Sep (fps [.blk g 34 #[.slice C0 ts.length e0, .slice C1 ks.length e1, .slice C2 fs.length e2, .int .i64 tn, .bool st], rT ts.length C0 e0 ts, rK ks.length C1 e1 ks, rF fs.length C2 e2 fs]) V' w' [])) :
    Calls Try.prog 102 (#[.pointer (some ⟨g, 0, none⟩)] ++ #[.pointer (some ⟨bwk, 0, none⟩), .pointer (some ⟨bvv, 0, none⟩)]) V (fun r w' => r = .panicked [{ v := .iface 148 (.int .i64 rp), recovered := false }] ∧ Sep (fps [.blk g 34 #[.slice C0 ts.length e0, .slice C1 ks.length e1, .slice C2 fs.length e2, .int .i64 tn, .bool st], rT ts.length C0 e0 ts, rK ks.length C1 e1 ks, rF fs.length C2 e2 fs]) V w' []) := by
  have H := hide h
  clear h
  show Calls Try.prog 102 #[.pointer (some ⟨g, 0, none⟩), .pointer (some ⟨bwk, 0, none⟩), .pointer (some ⟨bvv, 0, none⟩)] V _
  go_enter Try.func102, Try.ntmps102
  go_wp2_with fail
  have M := (H.out.allocN 65 #[.int .i64 0, .int .i64 0]).rot
  generalize V.alloc (.cells #[.int .i64 0, .int .i64 0] 65) = W1 at M ⊢
  refine Calls.mono (by with_reducible exact (hb W1 (Sep.same M (Below.refl _ _)))) ?_
  rintro r W2 ⟨rfl, g1⟩
  have M2 := Sep.comp M g1
  clear M g1
  go_wp2_with fail
  exact ⟨rfl, rfl, M2.drop 1⟩

set_option maxRecDepth 100000 in
set_option maxHeartbeats 400000 in
theorem endedC_yes (ts : List T7) (ks : List Int) (fs : List F2) (C0 C1 C2 : Option Addr) (e0 e1 e2 : Nat) (tn : Int) (st : Bool) (g : Nat) (wk : Int) (vv : Int) (bwk : Nat) (bvv : Nat) (o : OutP) (V : World) (h : Sep (fps [.blk g 34 #[.slice C0 ts.length e0, .slice C1 ks.length e1, .slice C2 fs.length e2, .int .i64 tn, .bool st], rT ts.length C0 e0 ts, rK ks.length C1 e1 ks, rF fs.length C2 e2 fs]) V V [.blk g 34 #[.slice C0 ts.length e0, .slice C1 ks.length e1, .slice C2 fs.length e2, .int .i64 tn, .bool st], rT ts.length C0 e0 ts, rK ks.length C1 e1 ks, rF fs.length C2 e2 fs]) (hwk : V.cell? ⟨bwk, 0, none⟩ = some (.int .i64 wk)) (lwk : bwk < V.heap.size) (hvv : V.cell? ⟨bvv, 0, none⟩ = some (.int .i64 vv)) (lvv : bvv < V.heap.size)
    (hb : ∀ V', Sep (fps [.blk g 34 #[.slice C0 ts.length e0, .slice C1 ks.length e1, .slice C2 fs.length e2, .int .i64 tn, .bool st], rT ts.length C0 e0 ts, rK ks.length C1 e1 ks, rF fs.length C2 e2 fs]) V' V' [.blk g 34 #[.slice C0 ts.length e0, .slice C1 ks.length e1, .slice C2 fs.length e2, .int .i64 tn, .bool st], rT ts.length C0 e0 ts, rK ks.length C1 e1 ks, rF fs.length C2 e2 fs] → Calls Try.prog 103 #[.pointer (some ⟨g, 0, none⟩), .int .i64 wk, .int .i64 vv] V' (fun r w' => ∃ (D0 D1 D2 : Option Addr) (f0 f1 f2 : Nat), r = .returned (.agg #[.int .i64 o.rp, .int .i64 o.ou]) ∧ Sep (fps [.blk g 34 #[.slice C0 ts.length e0, .slice C1 ks.length e1, .slice C2 fs.length e2, .int .i64 tn, .bool st], rT ts.length C0 e0 ts, rK ks.length C1 e1 ks, rF fs.length C2 e2 fs]) V' w' [.blk g 34 #[.slice D0 o.ts.length f0, .slice D1 o.ks.length f1, .slice D2 o.fs.length f2, .int .i64 o.tn, .bool o.st], rT o.ts.length D0 f0 o.ts, rK o.ks.length D1 f1 o.ks, rF o.fs.length D2 f2 o.fs])) :
    Calls Try.prog 102 (#[.pointer (some ⟨g, 0, none⟩)] ++ #[.pointer (some ⟨bwk, 0, none⟩), .pointer (some ⟨bvv, 0, none⟩)]) V (fun r w' => ∃ (D0 D1 D2 : Option Addr) (f0 f1 f2 : Nat), r = .returned (.agg #[.int .i64 o.rp, .int .i64 o.ou]) ∧ Sep (fps [.blk g 34 #[.slice C0 ts.length e0, .slice C1 ks.length e1, .slice C2 fs.length e2, .int .i64 tn, .bool st], rT ts.length C0 e0 ts, rK ks.length C1 e1 ks, rF fs.length C2 e2 fs]) V w' [.blk g 34 #[.slice D0 o.ts.length f0, .slice D1 o.ks.length f1, .slice D2 o.fs.length f2, .int .i64 o.tn, .bool o.st], rT o.ts.length D0 f0 o.ts, rK o.ks.length D1 f1 o.ks, rF o.fs.length D2 f2 o.fs]) := by
  have H := hide h
  clear h
  show Calls Try.prog 102 #[.pointer (some ⟨g, 0, none⟩), .pointer (some ⟨bwk, 0, none⟩), .pointer (some ⟨bvv, 0, none⟩)] V _
  go_enter Try.func102, Try.ntmps102
  go_wp2_with fail
  have M := (H.out.allocN 65 #[.int .i64 0, .int .i64 0]).rot
  generalize V.alloc (.cells #[.int .i64 0, .int .i64 0] 65) = W1 at M ⊢
  refine Calls.mono (by with_reducible exact (hb W1 (Sep.same M (Below.refl _ _)))) ?_
  rintro r W2 ⟨D0, D1, D2, f0, f1, f2, rfl, g1⟩
  have M2 := Sep.comp M g1
  clear M g1
  simp only [List.cons_append, List.nil_append] at M2
  obtain ⟨tR, qR0, fR0, qR1, fR1⟩ := M2.f2 4 rfl
  go_wp2_with fail
  have N := M2.gset2 4 rfl (.int .i64 o.rp) (.int .i64 o.ou)
  clear M2 qR0 qR1 fR0 fR1 tR
  obtain ⟨W3, eW, M⟩ := N
  rw [eW]
  clear eW
  simp only [List.set_cons_zero, List.set_cons_succ] at M
  obtain ⟨tR, qR0, qR1⟩ := M.q2 4 rfl
  exact bodyPost_ret (v := .agg #[.int .i64 o.rp, .int .i64 o.ou]) (by simp [results, Try.results102, go_sem, qR0, qR1]) rfl ⟨D0, D1, D2, f0, f1, f2, rfl, M.take 4⟩

set_option maxRecDepth 100000 in
set_option maxHeartbeats 800000 in
theorem gEnded_face (a b c d e : Int) (ts : List T7) (ks : List Int) (fs : List F2) (A0 A1 A2 : Option Addr) (c0 c1 c2 : Nat) (tn : Int) (st : Bool) (wk : Int) (vv : Int) (w : World) (ht : ts.length ≤ 1048576) (hk : ks.length ≤ 1048576) (hf : fs.length ≤ 1048576) (h : InPool w ts ks fs A0 A1 A2) (o : OutP)
    (hL : ∀ (V : World) (bwk bvv : Nat), Below w.heap.size w V → V.cell? ⟨bwk, 0, none⟩ = some (.int .i64 wk) → bwk < V.heap.size → V.cell? ⟨bvv, 0, none⟩ = some (.int .i64 vv) → bvv < V.heap.size → Calls Try.prog 94 #[.agg #[.int .i64 a, .int .i64 b, .int .i64 c, .int .i64 d, .int .i64 e], .agg #[.slice A0 ts.length c0, .slice A1 ks.length c1, .slice A2 fs.length c2, .int .i64 tn, .bool st], .int .i64 wk, .func (.func 102) #[] #[.pointer (some ⟨bwk, 0, none⟩), .pointer (some ⟨bvv, 0, none⟩)]] V (GaveS [] V o)) :
    Calls Try.prog 46 #[.agg #[.int .i64 a, .int .i64 b, .int .i64 c, .int .i64 d, .int .i64 e], .agg #[.slice A0 ts.length c0, .slice A1 ks.length c1, .slice A2 fs.length c2, .int .i64 tn, .bool st], .int .i64 wk, .int .i64 vv] w (GaveS [] w o) := by
  have hmf : ∀ (fn : Fn) (first cap : Array Value) (w : World), (Instr.makeFunc fn first cap).run Try.prog w = .ok (.func fn first cap) w := fun _ _ _ _ => rfl
  have HL := hide hL
  have H := hide h
  clear h hL
  go_enter Try.func46, Try.ntmps46
  go_wp2_with fail
  have M : Sep [] w ((((((w.alloc (.cells #[.int .i64 a, .int .i64 b, .int .i64 c, .int .i64 d, .int .i64 e] 28)).alloc (.cells #[.slice A0 ts.length c0, .slice A1 ks.length c1, .slice A2 fs.length c2, .int .i64 tn, .bool st] 34)).alloc (.cells #[.int .i64 wk] 2)).alloc (.cells #[.int .i64 vv] 2)).alloc (.cells #[.slice none 0 0, .slice none 0 0, .slice none 0 0, .int .i64 0, .bool false] 34)).alloc (.cells #[.int .i64 0, .int .i64 0] 65)) [.blk (w.heap.size + 5) 65 #[.int .i64 0, .int .i64 0], .blk (w.heap.size + 4) 34 #[.slice none 0 0, .slice none 0 0, .slice none 0 0, .int .i64 0, .bool false], .blk (w.heap.size + 3) 2 #[.int .i64 vv], .blk (w.heap.size + 2) 2 #[.int .i64 wk], .blk (w.heap.size + 1) 34 #[.slice A0 ts.length c0, .slice A1 ks.length c1, .slice A2 fs.length c2, .int .i64 tn, .bool st], .blk (w.heap.size) 28 #[.int .i64 a, .int .i64 b, .int .i64 c, .int .i64 d, .int .i64 e]] := Sep.enter6 w
  generalize (((((w.alloc (.cells #[.int .i64 a, .int .i64 b, .int .i64 c, .int .i64 d, .int .i64 e] 28)).alloc (.cells #[.slice A0 ts.length c0, .slice A1 ks.length c1, .slice A2 fs.length c2, .int .i64 tn, .bool st] 34)).alloc (.cells #[.int .i64 wk] 2)).alloc (.cells #[.int .i64 vv] 2)).alloc (.cells #[.slice none 0 0, .slice none 0 0, .slice none 0 0, .int .i64 0, .bool false] 34)).alloc (.cells #[.int .i64 0, .int .i64 0] 65) = W1 at M ⊢
  obtain ⟨tS, qS0, fS0, qS1, fS1⟩ := M.f2 0 rfl
  obtain ⟨tR, qR0, fR0, qR1, fR1, qR2, fR2, qR3, fR3, qR4, fR4⟩ := M.f5 1 rfl
  obtain ⟨tVvv, qVvv0, fVvv0⟩ := M.f1 2 rfl
  obtain ⟨tVwk, qVwk0, fVwk0⟩ := M.f1 3 rfl
  obtain ⟨tX, qX0, fX0, qX1, fX1, qX2, fX2, qX3, fX3, qX4, fX4⟩ := M.f5 4 rfl
  obtain ⟨tP, qP0, fP0, qP1, fP1, qP2, fP2, qP3, fP3, qP4, fP4⟩ := M.f5 5 rfl
  go_wp2_with fail
  have hC := HL.out _ (w.heap.size + 2) (w.heap.size + 3) M.below (M.cell 3 0 rfl) (M.lt 3 rfl) (M.cell 2 0 rfl) (M.lt 2 rfl)
  refine Calls.mono (by with_reducible exact hC) ?_
  clear hC
  rintro r W2 ⟨B0, B1, B2, d0, d1, d2, rfl, g1⟩
  clear tS qS0 fS0 qS1 fS1 tR qR0 fR0 qR1 fR1 qR2 fR2 qR3 fR3 qR4 fR4 tVvv qVvv0 fVvv0 tVwk qVwk0 fVwk0 tX qX0 fX0 qX1 fX1 qX2 fX2 qX3 fX3 qX4 fX4 tP qP0 fP0 qP1 fP1 qP2 fP2 qP3 fP3 qP4 fP4
  replace M := Sep.new M g1
  simp only [List.cons_append, List.nil_append] at M
  clear g1
  obtain ⟨tS, qS0, fS0, qS1, fS1⟩ := M.f2 3 rfl
  obtain ⟨tR, qR0, fR0, qR1, fR1, qR2, fR2, qR3, fR3, qR4, fR4⟩ := M.f5 4 rfl
  go_wp2_with fail
  clear tS qS0 fS0 qS1 fS1 tR qR0 fR0 qR1 fR1 qR2 fR2 qR3 fR3 qR4 fR4
  have N := M.gset5 4 rfl (.slice B0 o.ts.length d0) (.slice B1 o.ks.length d1) (.slice B2 o.fs.length d2) (.int .i64 o.tn) (.bool o.st)
  clear M
  obtain ⟨W3, eW, M⟩ := N
  rw [eW]
  clear eW
  simp only [List.set_cons_zero, List.set_cons_succ] at M
  have N := M.gset2 3 rfl (.int .i64 o.rp) (.int .i64 o.ou)
  clear M
  obtain ⟨W4, eW, M⟩ := N
  rw [eW]
  clear eW
  simp only [List.set_cons_zero, List.set_cons_succ] at M
  obtain ⟨tS, qS0, qS1⟩ := M.q2 3 rfl
  obtain ⟨tR, qR0, qR1, qR2, qR3, qR4⟩ := M.q5 4 rfl
  exact bodyPost_ret (v := .tuple #[.agg #[.slice B0 o.ts.length d0, .slice B1 o.ks.length d1, .slice B2 o.fs.length d2, .int .i64 o.tn, .bool o.st], .agg #[.int .i64 o.rp, .int .i64 o.ou]]) (by simp [results, Try.results46, go_sem, qR0, qR1, qR2, qR3, qR4, qS0, qS1]) rfl ⟨B0, B1, B2, d0, d1, d2, rfl, M.take 3⟩

theorem ended_both (a b c d e : Int) (ts : List T7) (ks : List Int) (fs : List F2) (tn : Int) (st : Bool) (wk : Int) (vv : Int) (hl : ts.length + ks.length + fs.length ≤ 1048576) :
    ∃ (us : List T7) (ks2 : List Int) (fs2 : List F2) (tn2 : Int) (st2 : Bool) (rp ou : Int), us.length + ks2.length + fs2.length ≤ 1048576 ∧
    Hid (∀ (A0 A1 A2 : Option Addr) (c0 c1 c2 : Nat) (w : World), InPool w ts ks fs A0 A1 A2 → Calls Try.prog 45 #[.agg #[.int .i64 a, .int .i64 b, .int .i64 c, .int .i64 d, .int .i64 e], .agg #[.slice A0 ts.length c0, .slice A1 ks.length c1, .slice A2 fs.length c2, .int .i64 tn, .bool st], .int .i64 wk, .int .i64 vv] w (GaveA us ks2 fs2 tn2 st2 rp ou w)) ∧
    Hid (∀ (A0 A1 A2 : Option Addr) (c0 c1 c2 : Nat) (w : World), InPool w ts ks fs A0 A1 A2 → Calls Try.prog 46 #[.agg #[.int .i64 a, .int .i64 b, .int .i64 c, .int .i64 d, .int .i64 e], .agg #[.slice A0 ts.length c0, .slice A1 ks.length c1, .slice A2 fs.length c2, .int .i64 tn, .bool st], .int .i64 wk, .int .i64 vv] w (GaveA us ks2 fs2 tn2 st2 rp ou w)) := by
  have ht : ts.length ≤ 1048576 := by omega
  have hk : ks.length ≤ 1048576 := by omega
  have hf : fs.length ≤ 1048576 := by omega
  cases hp : poolB a b c d e ts ks fs tn
  · exact ⟨[], [], [], 0, false, 8, 0, by simp, hide (fun A0 A1 A2 c0 c1 c2 w h => (ended_may a b c d e ts ks fs A0 A1 A2 c0 c1 c2 tn st wk vv w ht hk hf h _ rfl (by simp [mayB, hp])).mono (fun r w' hh => by rw [hp] at hh; exact hh)), hide (fun A0 A1 A2 c0 c1 c2 w h => gEnded_face a b c d e ts ks fs A0 A1 A2 c0 c1 c2 tn st wk vv w ht hk hf h ⟨[], [], [], 0, false, 8, 0⟩ (fun V bwk bvv hV hwk lwk hvv lvv => lived_bad a b c d e ts ks fs A0 A1 A2 c0 c1 c2 tn st wk 102 #[.pointer (some ⟨bwk, 0, none⟩), .pointer (some ⟨bvv, 0, none⟩)] (Go.Proofs.enters_of Try.func102 (by kernel_rfl) rfl) V ht hk hf (h.below hV) hp))⟩
  have hpl := (poolB_parts hp).1
  have hT := (poolB_parts hp).2.1
  cases hw : btw wk 0 (a - 1)
  · exact ⟨ts, ks, fs, tn, st, 8, 0, hl, hide (fun A0 A1 A2 c0 c1 c2 w h => (ended_may a b c d e ts ks fs A0 A1 A2 c0 c1 c2 tn st wk vv w ht hk hf h _ rfl (by simp [mayB, workB, hp, hw])).mono (fun r w' hh => by rw [hp] at hh; exact hh)), hide (fun A0 A1 A2 c0 c1 c2 w h => gEnded_face a b c d e ts ks fs A0 A1 A2 c0 c1 c2 tn st wk vv w ht hk hf h ⟨ts, ks, fs, tn, st, 8, 0⟩ (fun V bwk bvv hV hwk lwk hvv lvv => lived_worker a b c d e ts ks fs A0 A1 A2 c0 c1 c2 tn st wk 102 #[.pointer (some ⟨bwk, 0, none⟩), .pointer (some ⟨bvv, 0, none⟩)] (Go.Proofs.enters_of Try.func102 (by kernel_rfl) rfl) V ht hk hf (h.below hV) hp hw))⟩
  have hm : mayB a b c d e ts ks fs tn wk = true := by simp [mayB, workB, hp, hw, hpl]
  cases hv : btw vv 0 9999
  · exact ⟨ts, ks, fs, tn, st, 8, 0, hl, hide (fun A0 A1 A2 c0 c1 c2 w h => (ended_val a b c d e ts ks fs A0 A1 A2 c0 c1 c2 tn st wk vv w ht hk hf h _ rfl hm hv).mono (fun r w' hh => by rw [hp] at hh; exact hh)), hide (fun A0 A1 A2 c0 c1 c2 w h => gEnded_face a b c d e ts ks fs A0 A1 A2 c0 c1 c2 tn st wk vv w ht hk hf h ⟨ts, ks, fs, tn, st, 8, 0⟩ (fun V bwk bvv hV hwk lwk hvv lvv => lived_no a b c d e ts ks fs A0 A1 A2 c0 c1 c2 tn st wk 102 #[.pointer (some ⟨bwk, 0, none⟩), .pointer (some ⟨bvv, 0, none⟩)] (Go.Proofs.enters_of Try.func102 (by kernel_rfl) rfl) V ht hk hf (h.below hV) hp hw 8 (fun V2 g C0 C1 C2 e0 e1 e2 hV2 hM => endedC_no ts ks fs C0 C1 C2 e0 e1 e2 tn st g wk vv bwk bvv 8 V2 hM ((hV2.cell (p := ⟨bwk, 0, none⟩) lwk).trans hwk) (Nat.lt_of_lt_of_le lwk hV2.size) ((hV2.cell (p := ⟨bvv, 0, none⟩) lvv).trans hvv) (Nat.lt_of_lt_of_le lvv hV2.size) (fun V3 hM3 => end_val ts ks fs C0 C1 C2 e0 e1 e2 tn st g wk vv V3 ht hk hf hM3 hv))))⟩
  by_cases h0 : runM ts wk 0 < 0
  · have hr := runM_none h0
    exact ⟨ts, ks, fs, tn, st, 2, 0, hl, hide (fun A0 A1 A2 c0 c1 c2 w h => (ended_none a b c d e ts ks fs A0 A1 A2 c0 c1 c2 tn st wk vv w ht hk hf h _ rfl h0 hm hv).mono (fun r w' hh => by rw [hp] at hh; exact hh)), hide (fun A0 A1 A2 c0 c1 c2 w h => gEnded_face a b c d e ts ks fs A0 A1 A2 c0 c1 c2 tn st wk vv w ht hk hf h ⟨ts, ks, fs, tn, st, 2, 0⟩ (fun V bwk bvv hV hwk lwk hvv lvv => lived_no a b c d e ts ks fs A0 A1 A2 c0 c1 c2 tn st wk 102 #[.pointer (some ⟨bwk, 0, none⟩), .pointer (some ⟨bvv, 0, none⟩)] (Go.Proofs.enters_of Try.func102 (by kernel_rfl) rfl) V ht hk hf (h.below hV) hp hw 2 (fun V2 g C0 C1 C2 e0 e1 e2 hV2 hM => endedC_no ts ks fs C0 C1 C2 e0 e1 e2 tn st g wk vv bwk bvv 2 V2 hM ((hV2.cell (p := ⟨bwk, 0, none⟩) lwk).trans hwk) (Nat.lt_of_lt_of_le lwk hV2.size) ((hV2.cell (p := ⟨bvv, 0, none⟩) lvv).trans hvv) (Nat.lt_of_lt_of_le lvv hV2.size) (fun V3 hM3 => end_none ts ks fs C0 C1 C2 e0 e1 e2 tn st g wk vv V3 ht hk hf hM3 hv hr))))⟩
  obtain ⟨k, hr⟩ : ∃ k : Nat, runM ts wk 0 = k := ⟨(runM ts wk 0).toNat, by omega⟩
  obtain ⟨⟨s, l, o1, wt, on, v, t⟩, hts, hs2, _⟩ := runM_runs (Int.le_refl 0) (show runM ts wk 0 = 0 + (k : Int) by omega)
  simp only at hs2
  have hz0 := wakeAll_ok (wt := 1) (on := k) hv (end_right (vv := vv) hp hts hs2 hv)
  cases ho : okAll (waitersM (ts.set k ⟨4, l, -1, wt, on, vv, t⟩) 1 k) vv tn
  · have hz := hz0.trans ho
    exact ⟨ts, ks, fs, tn, st, 4, 0, hl, hide (fun A0 A1 A2 c0 c1 c2 w h => (ended_main a b c d e ts ks fs A0 A1 A2 c0 c1 c2 tn st wk vv w ht hk hf h k s l o1 wt on v t hts hr hm hv).mono (fun r w' hh => by rw [hz] at hh; exact hh)), hide (fun A0 A1 A2 c0 c1 c2 w h => gEnded_face a b c d e ts ks fs A0 A1 A2 c0 c1 c2 tn st wk vv w ht hk hf h ⟨ts, ks, fs, tn, st, 4, 0⟩ (fun V bwk bvv hV hwk lwk hvv lvv => lived_no a b c d e ts ks fs A0 A1 A2 c0 c1 c2 tn st wk 102 #[.pointer (some ⟨bwk, 0, none⟩), .pointer (some ⟨bvv, 0, none⟩)] (Go.Proofs.enters_of Try.func102 (by kernel_rfl) rfl) V ht hk hf (h.below hV) hp hw 4 (fun V2 g C0 C1 C2 e0 e1 e2 hV2 hM => endedC_no ts ks fs C0 C1 C2 e0 e1 e2 tn st g wk vv bwk bvv 4 V2 hM ((hV2.cell (p := ⟨bwk, 0, none⟩) lwk).trans hwk) (Nat.lt_of_lt_of_le lwk hV2.size) ((hV2.cell (p := ⟨bvv, 0, none⟩) lvv).trans hvv) (Nat.lt_of_lt_of_le lvv hV2.size) (fun V3 hM3 => end_full ts ks fs C0 C1 C2 e0 e1 e2 tn st g wk vv V3 ht hk hf hM3 k s l o1 wt on v t hts hv hr hT.1 hT.2 ho))))⟩
  · have hz := hz0.trans ho
    exact ⟨(wakeAllT (waitersM (ts.set k ⟨4, l, -1, wt, on, vv, t⟩) 1 k) (ts.set k ⟨4, l, -1, wt, on, vv, t⟩) tn vv), ks, fs, tn + ((waitersM (ts.set k ⟨4, l, -1, wt, on, vv, t⟩) 1 k).length : Int), st, 1, ((waitersM (ts.set k ⟨4, l, -1, wt, on, vv, t⟩) 1 k).length : Int), by rw [wakeAllT_length, List.length_set]; exact hl, hide (fun A0 A1 A2 c0 c1 c2 w h => (ended_main a b c d e ts ks fs A0 A1 A2 c0 c1 c2 tn st wk vv w ht hk hf h k s l o1 wt on v t hts hr hm hv).mono (fun r w' hh => by rw [hz] at hh; exact hh)), hide (fun A0 A1 A2 c0 c1 c2 w h => gEnded_face a b c d e ts ks fs A0 A1 A2 c0 c1 c2 tn st wk vv w ht hk hf h ⟨(wakeAllT (waitersM (ts.set k ⟨4, l, -1, wt, on, vv, t⟩) 1 k) (ts.set k ⟨4, l, -1, wt, on, vv, t⟩) tn vv), ks, fs, tn + ((waitersM (ts.set k ⟨4, l, -1, wt, on, vv, t⟩) 1 k).length : Int), st, 1, ((waitersM (ts.set k ⟨4, l, -1, wt, on, vv, t⟩) 1 k).length : Int)⟩ (fun V bwk bvv hV hwk lwk hvv lvv => lived_yes a b c d e ts ks fs A0 A1 A2 c0 c1 c2 tn st wk 102 #[.pointer (some ⟨bwk, 0, none⟩), .pointer (some ⟨bvv, 0, none⟩)] (Go.Proofs.enters_of Try.func102 (by kernel_rfl) rfl) V ht hk hf (h.below hV) hp hw _ (fun V2 g C0 C1 C2 e0 e1 e2 hV2 hM => endedC_yes ts ks fs C0 C1 C2 e0 e1 e2 tn st g wk vv bwk bvv _ V2 hM ((hV2.cell (p := ⟨bwk, 0, none⟩) lwk).trans hwk) (Nat.lt_of_lt_of_le lwk hV2.size) ((hV2.cell (p := ⟨bvv, 0, none⟩) lvv).trans hvv) (Nat.lt_of_lt_of_le lvv hV2.size) (fun V3 hM3 => by have h9 := end_ok ts ks fs C0 C1 C2 e0 e1 e2 tn st g wk vv V3 ht hk hf hM3 k s l o1 wt on v t hts hv hr hT.1 hT.2 ho; rw [show (wakeAllT (waitersM (ts.set k ⟨4, l, -1, wt, on, vv, t⟩) 1 k) (ts.set k ⟨4, l, -1, wt, on, vv, t⟩) tn vv).length = ts.length from (wakeAllT_length ..).trans List.length_set]; exact h9))))⟩
end Go.Proofs.Ytgncjcnobojgbaa
