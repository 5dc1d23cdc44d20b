/- Spawned of the program and of the model answer alike. Lists no longer than a million. -/
import Derived.Shelf.Abstract
import Derived.Test.YtgncjcnobojgbaaPLived
import Derived.Test.YtgncjcnobojgbaaPRight
import Derived.Test.YtgncjcnobojgbaaPSpawn
import Derived.Test.YtgncjcnobojgbaaSSpawnedA
import Derived.Test.YtgncjcnobojgbaaSSpawned
namespace Go.Proofs.Ytgncjcnobojgbaa
open Go.RowKit
set_option linter.unusedVariables false

theorem Sep.rot {S : List Nat} {w W : World} {r : Res} {rs : List Res} (h : Sep S w W (r :: rs)) : Sep S w W (rs ++ [r]) := h.perm (List.perm_append_comm (l₁ := [r]) (l₂ := rs))
/-- A pool and an answer, part by part. -/
def GaveA (us : List T7) (ks : List Int) (fs : List F2) (tn : Int) (st : Bool) (rp ou : Int) (w : World) (r : Ending) (w' : World) : Prop :=
  ∃ (B0 B1 B2 : Option Addr) (d0 d1 d2 : Nat), r = .returned (.tuple #[.agg #[.slice B0 us.length d0, .slice B1 ks.length d1, .slice B2 fs.length d2, .int .i64 tn, .bool st], .agg #[.int .i64 rp, .int .i64 ou]]) ∧ Sep [] w w' [rT us.length B0 d0 us, rK ks.length B1 d1 ks, rF fs.length B2 d2 fs]

set_option maxRecDepth 100000 in
set_option maxHeartbeats 400000 in
theorem spawnedC_no (ts : List T7) (ks : List Int) (fs : List F2) (C0 C1 C2 : Option Addr) (e0 e1 e2 : Nat) (tn : Int) (st : Bool) (g : Nat) (a b c d e : Int) (lv : Int) (bP : Nat) (blv : Nat) (rp : Int) (V : World) (h : Sep (fps [.blk g 34 #[.slice C0 ts.length e0, .slice C1 ks.length e1, .slice C2 fs.length e2, .int .i64 tn, .bool st], rT ts.length C0 e0 ts, rK ks.length C1 e1 ks, rF fs.length C2 e2 fs]) V V [.blk g 34 #[.slice C0 ts.length e0, .slice C1 ks.length e1, .slice C2 fs.length e2, .int .i64 tn, .bool st], rT ts.length C0 e0 ts, rK ks.length C1 e1 ks, rF fs.length C2 e2 fs]) (hP : ∀ j, V.cell? ⟨bP, j, none⟩ = (#[.int .i64 a, .int .i64 b, .int .i64 c, .int .i64 d, .int .i64 e] : Array Value)[j]?) (lP : bP < V.heap.size) (hlv : V.cell? ⟨blv, 0, none⟩ = some (.int .i64 lv)) (llv : blv < V.heap.size)
    (hb : ∀ V', Sep (fps [.blk g 34 #[.slice C0 ts.length e0, .slice C1 ks.length e1, .slice C2 fs.length e2, .int .i64 tn, .bool st], rT ts.length C0 e0 ts, rK ks.length C1 e1 ks, rF fs.length C2 e2 fs]) V' V' [.blk g 34 #[.slice C0 ts.length e0, .slice C1 ks.length e1, .slice C2 fs.length e2, .int .i64 tn, .bool st], rT ts.length C0 e0 ts, rK ks.length C1 e1 ks, rF fs.length C2 e2 fs] → Calls Try.prog 96 #[.pointer (some ⟨g, 0, none⟩), .agg #[.int .i64 a, .int .i64 b, .int .i64 c, .int .i64 d, .int .i64 e], .int .i64 lv] V' (fun r w' => r = .panicked [{ v := .iface 148 (.int .i64 rp), recovered := false }] ∧ Sep (fps [.blk g 34 #[.slice C0 ts.length e0, .slice C1 ks.length e1, .slice C2 fs.length e2, .int .i64 tn, .bool st], rT ts.length C0 e0 ts, rK ks.length C1 e1 ks, rF fs.length C2 e2 fs]) V' w' [])) :
    Calls Try.prog 95 (#[.pointer (some ⟨g, 0, none⟩)] ++ #[.pointer (some ⟨bP, 0, none⟩), .pointer (some ⟨blv, 0, none⟩)]) V (fun r w' => r = .panicked [{ v := .iface 148 (.int .i64 rp), recovered := false }] ∧ Sep (fps [.blk g 34 #[.slice C0 ts.length e0, .slice C1 ks.length e1, .slice C2 fs.length e2, .int .i64 tn, .bool st], rT ts.length C0 e0 ts, rK ks.length C1 e1 ks, rF fs.length C2 e2 fs]) V w' []) := by
  have H := hide h
  clear h
  have qP0 : V.cell? ⟨bP, 0, none⟩ = some (.int .i64 a) := hP 0
  have qP1 : V.cell? ⟨bP, 1, none⟩ = some (.int .i64 b) := hP 1
  have qP2 : V.cell? ⟨bP, 2, none⟩ = some (.int .i64 c) := hP 2
  have qP3 : V.cell? ⟨bP, 3, none⟩ = some (.int .i64 d) := hP 3
  have qP4 : V.cell? ⟨bP, 4, none⟩ = some (.int .i64 e) := hP 4
  clear hP
  show Calls Try.prog 95 #[.pointer (some ⟨g, 0, none⟩), .pointer (some ⟨bP, 0, none⟩), .pointer (some ⟨blv, 0, none⟩)] V _
  go_enter Try.func95, Try.ntmps95
  go_wp2_with fail
  have M := (H.out.allocN 65 #[.int .i64 0, .int .i64 0]).rot
  generalize V.alloc (.cells #[.int .i64 0, .int .i64 0] 65) = W1 at M ⊢
  refine Calls.mono (by with_reducible exact (hb W1 (Sep.same M (Below.refl _ _)))) ?_
  rintro r W2 ⟨rfl, g1⟩
  have M2 := Sep.comp M g1
  clear M g1
  go_wp2_with fail
  exact ⟨rfl, rfl, M2.drop 1⟩

set_option maxRecDepth 100000 in
set_option maxHeartbeats 400000 in
theorem spawnedC_yes (ts : List T7) (ks : List Int) (fs : List F2) (C0 C1 C2 : Option Addr) (e0 e1 e2 : Nat) (tn : Int) (st : Bool) (g : Nat) (a b c d e : Int) (lv : Int) (bP : Nat) (blv : Nat) (o : OutP) (V : World) (h : Sep (fps [.blk g 34 #[.slice C0 ts.length e0, .slice C1 ks.length e1, .slice C2 fs.length e2, .int .i64 tn, .bool st], rT ts.length C0 e0 ts, rK ks.length C1 e1 ks, rF fs.length C2 e2 fs]) V V [.blk g 34 #[.slice C0 ts.length e0, .slice C1 ks.length e1, .slice C2 fs.length e2, .int .i64 tn, .bool st], rT ts.length C0 e0 ts, rK ks.length C1 e1 ks, rF fs.length C2 e2 fs]) (hP : ∀ j, V.cell? ⟨bP, j, none⟩ = (#[.int .i64 a, .int .i64 b, .int .i64 c, .int .i64 d, .int .i64 e] : Array Value)[j]?) (lP : bP < V.heap.size) (hlv : V.cell? ⟨blv, 0, none⟩ = some (.int .i64 lv)) (llv : blv < V.heap.size)
    (hb : ∀ V', Sep (fps [.blk g 34 #[.slice C0 ts.length e0, .slice C1 ks.length e1, .slice C2 fs.length e2, .int .i64 tn, .bool st], rT ts.length C0 e0 ts, rK ks.length C1 e1 ks, rF fs.length C2 e2 fs]) V' V' [.blk g 34 #[.slice C0 ts.length e0, .slice C1 ks.length e1, .slice C2 fs.length e2, .int .i64 tn, .bool st], rT ts.length C0 e0 ts, rK ks.length C1 e1 ks, rF fs.length C2 e2 fs] → Calls Try.prog 96 #[.pointer (some ⟨g, 0, none⟩), .agg #[.int .i64 a, .int .i64 b, .int .i64 c, .int .i64 d, .int .i64 e], .int .i64 lv] V' (fun r w' => ∃ (D0 D1 D2 : Option Addr) (f0 f1 f2 : Nat), r = .returned (.agg #[.int .i64 o.rp, .int .i64 o.ou]) ∧ Sep (fps [.blk g 34 #[.slice C0 ts.length e0, .slice C1 ks.length e1, .slice C2 fs.length e2, .int .i64 tn, .bool st], rT ts.length C0 e0 ts, rK ks.length C1 e1 ks, rF fs.length C2 e2 fs]) V' w' [.blk g 34 #[.slice D0 o.ts.length f0, .slice D1 o.ks.length f1, .slice D2 o.fs.length f2, .int .i64 o.tn, .bool o.st], rT o.ts.length D0 f0 o.ts, rK o.ks.length D1 f1 o.ks, rF o.fs.length D2 f2 o.fs])) :
    Calls Try.prog 95 (#[.pointer (some ⟨g, 0, none⟩)] ++ #[.pointer (some ⟨bP, 0, none⟩), .pointer (some ⟨blv, 0, none⟩)]) V (fun r w' => ∃ (D0 D1 D2 : Option Addr) (f0 f1 f2 : Nat), r = .returned (.agg #[.int .i64 o.rp, .int .i64 o.ou]) ∧ Sep (fps [.blk g 34 #[.slice C0 ts.length e0, .slice C1 ks.length e1, .slice C2 fs.length e2, .int .i64 tn, .bool st], rT ts.length C0 e0 ts, rK ks.length C1 e1 ks, rF fs.length C2 e2 fs]) V w' [.blk g 34 #[.slice D0 o.ts.length f0, .slice D1 o.ks.length f1, .slice D2 o.fs.length f2, .int .i64 o.tn, .bool o.st], rT o.ts.length D0 f0 o.ts, rK o.ks.length D1 f1 o.ks, rF o.fs.length D2 f2 o.fs]) := by
  have H := hide h
  clear h
  have qP0 : V.cell? ⟨bP, 0, none⟩ = some (.int .i64 a) := hP 0
  have qP1 : V.cell? ⟨bP, 1, none⟩ = some (.int .i64 b) := hP 1
  have qP2 : V.cell? ⟨bP, 2, none⟩ = some (.int .i64 c) := hP 2
  have qP3 : V.cell? ⟨bP, 3, none⟩ = some (.int .i64 d) := hP 3
  have qP4 : V.cell? ⟨bP, 4, none⟩ = some (.int .i64 e) := hP 4
  clear hP
  show Calls Try.prog 95 #[.pointer (some ⟨g, 0, none⟩), .pointer (some ⟨bP, 0, none⟩), .pointer (some ⟨blv, 0, none⟩)] V _
  go_enter Try.func95, Try.ntmps95
  go_wp2_with fail
  have M := (H.out.allocN 65 #[.int .i64 0, .int .i64 0]).rot
  generalize V.alloc (.cells #[.int .i64 0, .int .i64 0] 65) = W1 at M ⊢
  refine Calls.mono (by with_reducible exact (hb W1 (Sep.same M (Below.refl _ _)))) ?_
  rintro r W2 ⟨D0, D1, D2, f0, f1, f2, rfl, g1⟩
  have M2 := Sep.comp M g1
  clear M g1
  simp only [List.cons_append, List.nil_append] at M2
  obtain ⟨tR, qR0, fR0, qR1, fR1⟩ := M2.f2 4 rfl
  go_wp2_with fail
  have N := M2.gset2 4 rfl (.int .i64 o.rp) (.int .i64 o.ou)
  clear M2 qR0 qR1 fR0 fR1 tR
  obtain ⟨W3, eW, M⟩ := N
  rw [eW]
  clear eW
  simp only [List.set_cons_zero, List.set_cons_succ] at M
  obtain ⟨tR, qR0, qR1⟩ := M.q2 4 rfl
  exact bodyPost_ret (v := .agg #[.int .i64 o.rp, .int .i64 o.ou]) (by simp [results, Try.results95, go_sem, qR0, qR1]) rfl ⟨D0, D1, D2, f0, f1, f2, rfl, M.take 4⟩

set_option maxRecDepth 100000 in
set_option maxHeartbeats 800000 in
theorem gSpawned_face (a b c d e : Int) (ts : List T7) (ks : List Int) (fs : List F2) (A0 A1 A2 : Option Addr) (c0 c1 c2 : Nat) (tn : Int) (st : Bool) (wk : Int) (lv : Int) (w : World) (ht : ts.length ≤ 1048576) (hk : ks.length ≤ 1048576) (hf : fs.length ≤ 1048576) (h : InPool w ts ks fs A0 A1 A2) (o : OutP)
    (hL : ∀ (V : World) (bP blv : Nat), Below w.heap.size w V → (∀ j, V.cell? ⟨bP, j, none⟩ = (#[.int .i64 a, .int .i64 b, .int .i64 c, .int .i64 d, .int .i64 e] : Array Value)[j]?) → bP < V.heap.size → V.cell? ⟨blv, 0, none⟩ = some (.int .i64 lv) → blv < V.heap.size → Calls Try.prog 94 #[.agg #[.int .i64 a, .int .i64 b, .int .i64 c, .int .i64 d, .int .i64 e], .agg #[.slice A0 ts.length c0, .slice A1 ks.length c1, .slice A2 fs.length c2, .int .i64 tn, .bool st], .int .i64 wk, .func (.func 95) #[] #[.pointer (some ⟨bP, 0, none⟩), .pointer (some ⟨blv, 0, none⟩)]] V (GaveS [] V o)) :
    Calls Try.prog 39 #[.agg #[.int .i64 a, .int .i64 b, .int .i64 c, .int .i64 d, .int .i64 e], .agg #[.slice A0 ts.length c0, .slice A1 ks.length c1, .slice A2 fs.length c2, .int .i64 tn, .bool st], .int .i64 wk, .int .i64 lv] w (GaveS [] w o) := by
  have hmf : ∀ (fn : Fn) (first cap : Array Value) (w : World), (Instr.makeFunc fn first cap).run Try.prog w = .ok (.func fn first cap) w := fun _ _ _ _ => rfl
  have HL := hide hL
  have H := hide h
  clear h hL
  go_enter Try.func39, Try.ntmps39
  go_wp2_with fail
  have M : Sep [] w (((((w.alloc (.cells #[.int .i64 a, .int .i64 b, .int .i64 c, .int .i64 d, .int .i64 e] 28)).alloc (.cells #[.slice A0 ts.length c0, .slice A1 ks.length c1, .slice A2 fs.length c2, .int .i64 tn, .bool st] 34)).alloc (.cells #[.int .i64 lv] 2)).alloc (.cells #[.slice none 0 0, .slice none 0 0, .slice none 0 0, .int .i64 0, .bool false] 34)).alloc (.cells #[.int .i64 0, .int .i64 0] 65)) [.blk (w.heap.size + 4) 65 #[.int .i64 0, .int .i64 0], .blk (w.heap.size + 3) 34 #[.slice none 0 0, .slice none 0 0, .slice none 0 0, .int .i64 0, .bool false], .blk (w.heap.size + 2) 2 #[.int .i64 lv], .blk (w.heap.size + 1) 34 #[.slice A0 ts.length c0, .slice A1 ks.length c1, .slice A2 fs.length c2, .int .i64 tn, .bool st], .blk (w.heap.size) 28 #[.int .i64 a, .int .i64 b, .int .i64 c, .int .i64 d, .int .i64 e]] := Sep.enter5 w
  generalize ((((w.alloc (.cells #[.int .i64 a, .int .i64 b, .int .i64 c, .int .i64 d, .int .i64 e] 28)).alloc (.cells #[.slice A0 ts.length c0, .slice A1 ks.length c1, .slice A2 fs.length c2, .int .i64 tn, .bool st] 34)).alloc (.cells #[.int .i64 lv] 2)).alloc (.cells #[.slice none 0 0, .slice none 0 0, .slice none 0 0, .int .i64 0, .bool false] 34)).alloc (.cells #[.int .i64 0, .int .i64 0] 65) = W1 at M ⊢
  obtain ⟨tS, qS0, fS0, qS1, fS1⟩ := M.f2 0 rfl
  obtain ⟨tR, qR0, fR0, qR1, fR1, qR2, fR2, qR3, fR3, qR4, fR4⟩ := M.f5 1 rfl
  obtain ⟨tVlv, qVlv0, fVlv0⟩ := M.f1 2 rfl
  obtain ⟨tX, qX0, fX0, qX1, fX1, qX2, fX2, qX3, fX3, qX4, fX4⟩ := M.f5 3 rfl
  obtain ⟨tP, qP0, fP0, qP1, fP1, qP2, fP2, qP3, fP3, qP4, fP4⟩ := M.f5 4 rfl
  go_wp2_with fail
  have hC := HL.out _ (w.heap.size) (w.heap.size + 2) M.below (fun j => M.cell 4 j rfl) (M.lt 4 rfl) (M.cell 2 0 rfl) (M.lt 2 rfl)
  refine Calls.mono (by with_reducible exact hC) ?_
  clear hC
  rintro r W2 ⟨B0, B1, B2, d0, d1, d2, rfl, g1⟩
  clear tS qS0 fS0 qS1 fS1 tR qR0 fR0 qR1 fR1 qR2 fR2 qR3 fR3 qR4 fR4 tVlv qVlv0 fVlv0 tX qX0 fX0 qX1 fX1 qX2 fX2 qX3 fX3 qX4 fX4 tP qP0 fP0 qP1 fP1 qP2 fP2 qP3 fP3 qP4 fP4
  replace M := Sep.new M g1
  simp only [List.cons_append, List.nil_append] at M
  clear g1
  obtain ⟨tS, qS0, fS0, qS1, fS1⟩ := M.f2 3 rfl
  obtain ⟨tR, qR0, fR0, qR1, fR1, qR2, fR2, qR3, fR3, qR4, fR4⟩ := M.f5 4 rfl
  go_wp2_with fail
  clear tS qS0 fS0 qS1 fS1 tR qR0 fR0 qR1 fR1 qR2 fR2 qR3 fR3 qR4 fR4
  have N := M.gset5 4 rfl (.slice B0 o.ts.length d0) (.slice B1 o.ks.length d1) (.slice B2 o.fs.length d2) (.int .i64 o.tn) (.bool o.st)
  clear M
  obtain ⟨W3, eW, M⟩ := N
  rw [eW]
  clear eW
  simp only [List.set_cons_zero, List.set_cons_succ] at M
  have N := M.gset2 3 rfl (.int .i64 o.rp) (.int .i64 o.ou)
  clear M
  obtain ⟨W4, eW, M⟩ := N
  rw [eW]
  clear eW
  simp only [List.set_cons_zero, List.set_cons_succ] at M
  obtain ⟨tS, qS0, qS1⟩ := M.q2 3 rfl
  obtain ⟨tR, qR0, qR1, qR2, qR3, qR4⟩ := M.q5 4 rfl
  exact bodyPost_ret (v := .tuple #[.agg #[.slice B0 o.ts.length d0, .slice B1 o.ks.length d1, .slice B2 o.fs.length d2, .int .i64 o.tn, .bool o.st], .agg #[.int .i64 o.rp, .int .i64 o.ou]]) (by simp [results, Try.results39, go_sem, qR0, qR1, qR2, qR3, qR4, qS0, qS1]) rfl ⟨B0, B1, B2, d0, d1, d2, rfl, M.take 3⟩

theorem spawned_both (a b c d e : Int) (ts : List T7) (ks : List Int) (fs : List F2) (tn : Int) (st : Bool) (wk : Int) (lv : Int) (hl : ts.length + ks.length + fs.length ≤ 1048576) :
    ∃ (us : List T7) (ks2 : List Int) (fs2 : List F2) (tn2 : Int) (st2 : Bool) (rp ou : Int), us.length + ks2.length + fs2.length ≤ 1048576 ∧
    Hid (∀ (A0 A1 A2 : Option Addr) (c0 c1 c2 : Nat) (w : World), InPool w ts ks fs A0 A1 A2 → Calls Try.prog 38 #[.agg #[.int .i64 a, .int .i64 b, .int .i64 c, .int .i64 d, .int .i64 e], .agg #[.slice A0 ts.length c0, .slice A1 ks.length c1, .slice A2 fs.length c2, .int .i64 tn, .bool st], .int .i64 wk, .int .i64 lv] w (GaveA us ks2 fs2 tn2 st2 rp ou w)) ∧
    Hid (∀ (A0 A1 A2 : Option Addr) (c0 c1 c2 : Nat) (w : World), InPool w ts ks fs A0 A1 A2 → Calls Try.prog 39 #[.agg #[.int .i64 a, .int .i64 b, .int .i64 c, .int .i64 d, .int .i64 e], .agg #[.slice A0 ts.length c0, .slice A1 ks.length c1, .slice A2 fs.length c2, .int .i64 tn, .bool st], .int .i64 wk, .int .i64 lv] w (GaveA us ks2 fs2 tn2 st2 rp ou w)) := by
  have ht : ts.length ≤ 1048576 := by omega
  have hk : ks.length ≤ 1048576 := by omega
  have hf : fs.length ≤ 1048576 := by omega
  cases hp : poolB a b c d e ts ks fs tn
  · exact ⟨[], [], [], 0, false, 8, 0, by simp, hide (fun A0 A1 A2 c0 c1 c2 w h => (spawned_may a b c d e ts ks fs A0 A1 A2 c0 c1 c2 tn st wk lv w ht hk hf h (by simp [mayB, hp])).mono (fun r w' hh => by rw [hp] at hh; exact hh)), hide (fun A0 A1 A2 c0 c1 c2 w h => gSpawned_face a b c d e ts ks fs A0 A1 A2 c0 c1 c2 tn st wk lv w ht hk hf h ⟨[], [], [], 0, false, 8, 0⟩ (fun V bP blv hV hP lP hlv llv => lived_bad a b c d e ts ks fs A0 A1 A2 c0 c1 c2 tn st wk 95 #[.pointer (some ⟨bP, 0, none⟩), .pointer (some ⟨blv, 0, none⟩)] (Go.Proofs.enters_of Try.func95 (by kernel_rfl) rfl) V ht hk hf (h.below hV) hp))⟩
  have hpl := (poolB_parts hp).1
  have hT := (poolB_parts hp).2.1
  cases hw : btw wk 0 (a - 1)
  · exact ⟨ts, ks, fs, tn, st, 8, 0, hl, hide (fun A0 A1 A2 c0 c1 c2 w h => (spawned_may a b c d e ts ks fs A0 A1 A2 c0 c1 c2 tn st wk lv w ht hk hf h (by simp [mayB, workB, hp, hw])).mono (fun r w' hh => by rw [hp] at hh; exact hh)), hide (fun A0 A1 A2 c0 c1 c2 w h => gSpawned_face a b c d e ts ks fs A0 A1 A2 c0 c1 c2 tn st wk lv w ht hk hf h ⟨ts, ks, fs, tn, st, 8, 0⟩ (fun V bP blv hV hP lP hlv llv => lived_worker a b c d e ts ks fs A0 A1 A2 c0 c1 c2 tn st wk 95 #[.pointer (some ⟨bP, 0, none⟩), .pointer (some ⟨blv, 0, none⟩)] (Go.Proofs.enters_of Try.func95 (by kernel_rfl) rfl) V ht hk hf (h.below hV) hp hw))⟩
  have hm : mayB a b c d e ts ks fs tn wk = true := by simp [mayB, workB, hp, hw, hpl]
  obtain ⟨pl1, pl2⟩ : 1 ≤ c ∧ c ≤ 30 := by have := planB_c hpl; omega
  cases hq9 : btw lv 0 (c - 1)
  · exact ⟨ts, ks, fs, tn, st, 8, 0, hl, hide (fun A0 A1 A2 c0 c1 c2 w h => (spawned_lev a b c d e ts ks fs A0 A1 A2 c0 c1 c2 tn st wk lv w ht hk hf h hm (by simp [levelB, hq9])).mono (fun r w' hh => by rw [hp] at hh; exact hh)), hide (fun A0 A1 A2 c0 c1 c2 w h => gSpawned_face a b c d e ts ks fs A0 A1 A2 c0 c1 c2 tn st wk lv w ht hk hf h ⟨ts, ks, fs, tn, st, 8, 0⟩ (fun V bP blv hV hP lP hlv llv => lived_no a b c d e ts ks fs A0 A1 A2 c0 c1 c2 tn st wk 95 #[.pointer (some ⟨bP, 0, none⟩), .pointer (some ⟨blv, 0, none⟩)] (Go.Proofs.enters_of Try.func95 (by kernel_rfl) rfl) V ht hk hf (h.below hV) hp hw 8 (fun V2 g C0 C1 C2 e0 e1 e2 hV2 hM => spawnedC_no ts ks fs C0 C1 C2 e0 e1 e2 tn st g a b c d e lv bP blv 8 V2 hM (fun j => (hV2.cell (p := ⟨bP, j, none⟩) lP).trans (hP j)) (Nat.lt_of_lt_of_le lP hV2.size) ((hV2.cell (p := ⟨blv, 0, none⟩) llv).trans hlv) (Nat.lt_of_lt_of_le llv hV2.size) (fun V3 hM3 => spawn_level ts ks fs C0 C1 C2 e0 e1 e2 tn st g a b c d e lv V3 ht hk hf hM3 pl1 pl2 hq9))))⟩
  have hlb : levelB a b c d e lv = true := by simp [levelB, hq9, hpl]
  have hlen : ts.length + ks.length + fs.length + 1 ≤ 1048576 ∨ b ≤ (ts.length : Int) := by
    have h1 := planB_all hpl
    have h2 := hp
    simp only [poolB, Bool.and_eq_true, decide_eq_true_eq] at h2
    omega
  cases st
  · by_cases hb : b ≤ (ts.length : Int)
    · exact ⟨ts, ks, fs, tn, false, 4, 0, hl, hide (fun A0 A1 A2 c0 c1 c2 w h => (spawned_full a b c d e ts ks fs A0 A1 A2 c0 c1 c2 tn wk lv w ht hk hf h hm hlb hb).mono (fun r w' hh => by rw [hp] at hh; exact hh)), hide (fun A0 A1 A2 c0 c1 c2 w h => gSpawned_face a b c d e ts ks fs A0 A1 A2 c0 c1 c2 tn false wk lv w ht hk hf h ⟨ts, ks, fs, tn, false, 4, 0⟩ (fun V bP blv hV hP lP hlv llv => lived_no a b c d e ts ks fs A0 A1 A2 c0 c1 c2 tn false wk 95 #[.pointer (some ⟨bP, 0, none⟩), .pointer (some ⟨blv, 0, none⟩)] (Go.Proofs.enters_of Try.func95 (by kernel_rfl) rfl) V ht hk hf (h.below hV) hp hw 4 (fun V2 g C0 C1 C2 e0 e1 e2 hV2 hM => spawnedC_no ts ks fs C0 C1 C2 e0 e1 e2 tn false g a b c d e lv bP blv 4 V2 hM (fun j => (hV2.cell (p := ⟨bP, j, none⟩) lP).trans (hP j)) (Nat.lt_of_lt_of_le lP hV2.size) ((hV2.cell (p := ⟨blv, 0, none⟩) llv).trans hlv) (Nat.lt_of_lt_of_le llv hV2.size) (fun V3 hM3 => spawn_full ts ks fs C0 C1 C2 e0 e1 e2 tn g a b c d e lv V3 ht hk hf hM3 pl1 pl2 hq9 hb))))⟩
    by_cases t1 : tn < 1000000
    · have hz := spawn_right hp hq9 (show (ts.length : Int) < b by omega) t1
      exact ⟨(ts ++ [(⟨1, lv, -1, 0, 0, 0, tn⟩ : T7)]), ks, fs, tn + 1, false, 1, ts.length, by simp; omega, hide (fun A0 A1 A2 c0 c1 c2 w h => (spawned_main a b c d e ts ks fs A0 A1 A2 c0 c1 c2 tn wk lv w ht hk hf h hm hlb hb).mono (fun r w' hh => by rw [hz] at hh; exact hh)), hide (fun A0 A1 A2 c0 c1 c2 w h => gSpawned_face a b c d e ts ks fs A0 A1 A2 c0 c1 c2 tn false wk lv w ht hk hf h ⟨(ts ++ [(⟨1, lv, -1, 0, 0, 0, tn⟩ : T7)]), ks, fs, tn + 1, false, 1, ts.length⟩ (fun V bP blv hV hP lP hlv llv => lived_yes a b c d e ts ks fs A0 A1 A2 c0 c1 c2 tn false wk 95 #[.pointer (some ⟨bP, 0, none⟩), .pointer (some ⟨blv, 0, none⟩)] (Go.Proofs.enters_of Try.func95 (by kernel_rfl) rfl) V ht hk hf (h.below hV) hp hw _ (fun V2 g C0 C1 C2 e0 e1 e2 hV2 hM => spawnedC_yes ts ks fs C0 C1 C2 e0 e1 e2 tn false g a b c d e lv bP blv _ V2 hM (fun j => (hV2.cell (p := ⟨bP, j, none⟩) lP).trans (hP j)) (Nat.lt_of_lt_of_le lP hV2.size) ((hV2.cell (p := ⟨blv, 0, none⟩) llv).trans hlv) (Nat.lt_of_lt_of_le llv hV2.size) (fun V3 hM3 => spawn_ok ts ks fs C0 C1 C2 e0 e1 e2 tn g a b c d e lv V3 ht hk hf hM3 pl1 pl2 hq9 hb hT.1 t1))))⟩
    · have hz : poolB a b c d e (ts ++ [(⟨1, lv, -1, 0, 0, 0, tn⟩ : T7)]) ks fs (tn + 1) = false := turn_over (by omega)
      exact ⟨ts, ks, fs, tn, false, 4, 0, hl, hide (fun A0 A1 A2 c0 c1 c2 w h => (spawned_main a b c d e ts ks fs A0 A1 A2 c0 c1 c2 tn wk lv w ht hk hf h hm hlb hb).mono (fun r w' hh => by rw [hz] at hh; exact hh)), hide (fun A0 A1 A2 c0 c1 c2 w h => gSpawned_face a b c d e ts ks fs A0 A1 A2 c0 c1 c2 tn false wk lv w ht hk hf h ⟨ts, ks, fs, tn, false, 4, 0⟩ (fun V bP blv hV hP lP hlv llv => lived_no a b c d e ts ks fs A0 A1 A2 c0 c1 c2 tn false wk 95 #[.pointer (some ⟨bP, 0, none⟩), .pointer (some ⟨blv, 0, none⟩)] (Go.Proofs.enters_of Try.func95 (by kernel_rfl) rfl) V ht hk hf (h.below hV) hp hw 4 (fun V2 g C0 C1 C2 e0 e1 e2 hV2 hM => spawnedC_no ts ks fs C0 C1 C2 e0 e1 e2 tn false g a b c d e lv bP blv 4 V2 hM (fun j => (hV2.cell (p := ⟨bP, j, none⟩) lP).trans (hP j)) (Nat.lt_of_lt_of_le lP hV2.size) ((hV2.cell (p := ⟨blv, 0, none⟩) llv).trans hlv) (Nat.lt_of_lt_of_le llv hV2.size) (fun V3 hM3 => spawn_turn ts ks fs C0 C1 C2 e0 e1 e2 tn g a b c d e lv V3 ht hk hf hM3 pl1 pl2 hq9 hb t1))))⟩
  · exact ⟨ts, ks, fs, tn, true, 6, 0, hl, hide (fun A0 A1 A2 c0 c1 c2 w h => (spawned_stop a b c d e ts ks fs A0 A1 A2 c0 c1 c2 tn wk lv w ht hk hf h hm hlb).mono (fun r w' hh => by rw [hp] at hh; exact hh)), hide (fun A0 A1 A2 c0 c1 c2 w h => gSpawned_face a b c d e ts ks fs A0 A1 A2 c0 c1 c2 tn true wk lv w ht hk hf h ⟨ts, ks, fs, tn, true, 6, 0⟩ (fun V bP blv hV hP lP hlv llv => lived_no a b c d e ts ks fs A0 A1 A2 c0 c1 c2 tn true wk 95 #[.pointer (some ⟨bP, 0, none⟩), .pointer (some ⟨blv, 0, none⟩)] (Go.Proofs.enters_of Try.func95 (by kernel_rfl) rfl) V ht hk hf (h.below hV) hp hw 6 (fun V2 g C0 C1 C2 e0 e1 e2 hV2 hM => spawnedC_no ts ks fs C0 C1 C2 e0 e1 e2 tn true g a b c d e lv bP blv 6 V2 hM (fun j => (hV2.cell (p := ⟨bP, j, none⟩) lP).trans (hP j)) (Nat.lt_of_lt_of_le lP hV2.size) ((hV2.cell (p := ⟨blv, 0, none⟩) llv).trans hlv) (Nat.lt_of_lt_of_le llv hV2.size) (fun V3 hM3 => spawn_stop ts ks fs C0 C1 C2 e0 e1 e2 tn g a b c d e lv V3 ht hk hf hM3 pl1 pl2 hq9))))⟩
end Go.Proofs.Ytgncjcnobojgbaa
