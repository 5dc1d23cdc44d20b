/- The model's Woken and ParkedBy, way by way. Lists no longer than a million. -/
import Derived.Test.YtgncjcnobojgbaaB3
namespace Go.Proofs.Ytgncjcnobojgbaa
open Go.RowKit
set_option linter.unusedVariables false

/-- A pool and a Bool that a call answers. -/
def GaveP (us : List T7) (ks : List Int) (fs : List F2) (tn : Int) (st z : Bool) (w : World) (r : Ending) (w' : World) : Prop :=
  ∃ (B0 B1 B2 : Option Addr) (d0 d1 d2 : Nat), r = .returned (.tuple #[.agg #[.slice B0 us.length d0, .slice B1 ks.length d1, .slice B2 fs.length d2, .int .i64 tn, .bool st], .bool z]) ∧ Sep [] w w' [rT us.length B0 d0 us, rK ks.length B1 d1 ks, rF fs.length B2 d2 fs]
theorem sep_zero {w W : World} (hb : Below w.heap.size w W) : Sep [] w W [rT 0 none 0 [], rK 0 none 0 [], rF 0 none 0 []] :=
  sepPool (lo := w.heap.size) (hi := W.heap.size) (ts := []) (ks := []) (fs := []) (Nat.le_refl _) hb ⟨⟨World.ownsRow_nil _ _ _ _, fun k h => by cases h⟩, ⟨World.ownsRow_nil _ _ _ _, fun k h => by cases h⟩, ⟨World.ownsRow_nil _ _ _ _, fun k h => by cases h⟩⟩

set_option maxRecDepth 100000 in
set_option maxHeartbeats 2000000 in
theorem either_yes (a b c d e : Int) (ts : List T7) (ks : List Int) (fs : List F2) (A0 A1 A2 : Option Addr) (c0 c1 c2 : Nat) (tn : Int) (st : Bool) (tsx : List T7) (ksx : List Int) (fsx : List F2) (A0x A1x A2x : Option Addr) (c0x c1x c2x : Nat) (tnx : Int) (stx : Bool) (w : World) (ht : ts.length ≤ 1048576) (hk : ks.length ≤ 1048576) (hf : fs.length ≤ 1048576) (hx0 : tsx.length ≤ 1048576) (hx1 : ksx.length ≤ 1048576) (hx2 : fsx.length ≤ 1048576) (h : InPool w ts ks fs A0 A1 A2) (hx : Sep (fps [rT tsx.length A0x c0x tsx, rK ksx.length A1x c1x ksx, rF fsx.length A2x c2x fsx]) w w [rT tsx.length A0x c0x tsx, rK ksx.length A1x c1x ksx, rF fsx.length A2x c2x fsx]) (hz : poolB a b c d e tsx ksx fsx tnx = true) :
    Calls Try.prog 75 #[.agg #[.int .i64 a, .int .i64 b, .int .i64 c, .int .i64 d, .int .i64 e], .agg #[.slice A0 ts.length c0, .slice A1 ks.length c1, .slice A2 fs.length c2, .int .i64 tn, .bool st], .agg #[.slice A0x tsx.length c0x, .slice A1x ksx.length c1x, .slice A2x fsx.length c2x, .int .i64 tnx, .bool stx]] w fun r w' => ∃ (B0 B1 B2 : Option Addr) (d0 d1 d2 : Nat), r = .returned (.tuple #[.agg #[.slice B0 tsx.length d0, .slice B1 ksx.length d1, .slice B2 fsx.length d2, .int .i64 tnx, .bool stx], .bool true]) ∧ Sep (fps [rT tsx.length A0x c0x tsx, rK ksx.length A1x c1x ksx, rF fsx.length A2x c2x fsx]) w w' [rT tsx.length B0 d0 tsx, rK ksx.length B1 d1 ksx, rF fsx.length B2 d2 fsx] := by
  have H := hide h
  have HX := hide hx
  have HZ := hide hz
  clear h hx hz
  go_enter Try.func75, Try.ntmps75
  go_wp2_with fail
  have hbel : Below w.heap.size w ((((w.alloc (.cells #[.int .i64 a, .int .i64 b, .int .i64 c, .int .i64 d, .int .i64 e] 28)).alloc (.cells #[.slice A0 ts.length c0, .slice A1 ks.length c1, .slice A2 fs.length c2, .int .i64 tn, .bool st] 34)).alloc (.cells #[.slice A0x tsx.length c0x, .slice A1x ksx.length c1x, .slice A2x fsx.length c2x, .int .i64 tnx, .bool stx] 34)).alloc (.cells #[.slice none 0 0, .slice none 0 0, .slice none 0 0, .int .i64 0, .bool false] 34)) := Sep.below (Sep.enter4 w)
  have M : Sep (fps [rT tsx.length A0x c0x tsx, rK ksx.length A1x c1x ksx, rF fsx.length A2x c2x fsx]) w ((((w.alloc (.cells #[.int .i64 a, .int .i64 b, .int .i64 c, .int .i64 d, .int .i64 e] 28)).alloc (.cells #[.slice A0 ts.length c0, .slice A1 ks.length c1, .slice A2 fs.length c2, .int .i64 tn, .bool st] 34)).alloc (.cells #[.slice A0x tsx.length c0x, .slice A1x ksx.length c1x, .slice A2x fsx.length c2x, .int .i64 tnx, .bool stx] 34)).alloc (.cells #[.slice none 0 0, .slice none 0 0, .slice none 0 0, .int .i64 0, .bool false] 34)) [.blk (w.heap.size + 3) 34 #[.slice none 0 0, .slice none 0 0, .slice none 0 0, .int .i64 0, .bool false], .blk (w.heap.size + 2) 34 #[.slice A0x tsx.length c0x, .slice A1x ksx.length c1x, .slice A2x fsx.length c2x, .int .i64 tnx, .bool stx], .blk (w.heap.size + 1) 34 #[.slice A0 ts.length c0, .slice A1 ks.length c1, .slice A2 fs.length c2, .int .i64 tn, .bool st], .blk (w.heap.size) 28 #[.int .i64 a, .int .i64 b, .int .i64 c, .int .i64 d, .int .i64 e], rT tsx.length A0x c0x tsx, rK ksx.length A1x c1x ksx, rF fsx.length A2x c2x fsx] := (Sep.alloc (Sep.alloc (Sep.alloc (Sep.alloc HX.out 28 #[.int .i64 a, .int .i64 b, .int .i64 c, .int .i64 d, .int .i64 e] (w.heap.size) (by simp)) 34 #[.slice A0 ts.length c0, .slice A1 ks.length c1, .slice A2 fs.length c2, .int .i64 tn, .bool st] (w.heap.size + 1) (by simp)) 34 #[.slice A0x tsx.length c0x, .slice A1x ksx.length c1x, .slice A2x fsx.length c2x, .int .i64 tnx, .bool stx] (w.heap.size + 2) (by simp)) 34 #[.slice none 0 0, .slice none 0 0, .slice none 0 0, .int .i64 0, .bool false] (w.heap.size + 3) (by simp))
  have HI : InPool ((((w.alloc (.cells #[.int .i64 a, .int .i64 b, .int .i64 c, .int .i64 d, .int .i64 e] 28)).alloc (.cells #[.slice A0 ts.length c0, .slice A1 ks.length c1, .slice A2 fs.length c2, .int .i64 tn, .bool st] 34)).alloc (.cells #[.slice A0x tsx.length c0x, .slice A1x ksx.length c1x, .slice A2x fsx.length c2x, .int .i64 tnx, .bool stx] 34)).alloc (.cells #[.slice none 0 0, .slice none 0 0, .slice none 0 0, .int .i64 0, .bool false] 34)) ts ks fs A0 A1 A2 := H.out.below hbel
  clear hbel
  generalize (((w.alloc (.cells #[.int .i64 a, .int .i64 b, .int .i64 c, .int .i64 d, .int .i64 e] 28)).alloc (.cells #[.slice A0 ts.length c0, .slice A1 ks.length c1, .slice A2 fs.length c2, .int .i64 tn, .bool st] 34)).alloc (.cells #[.slice A0x tsx.length c0x, .slice A1x ksx.length c1x, .slice A2x fsx.length c2x, .int .i64 tnx, .bool stx] 34)).alloc (.cells #[.slice none 0 0, .slice none 0 0, .slice none 0 0, .int .i64 0, .bool false] 34) = W1 at M HI ⊢
  replace HI := hide HI
  obtain ⟨tR, qR0, fR0, qR1, fR1, qR2, fR2, qR3, fR3, qR4, fR4⟩ := M.f5 0 rfl
  obtain ⟨tZ, qZ0, fZ0, qZ1, fZ1, qZ2, fZ2, qZ3, fZ3, qZ4, fZ4⟩ := M.f5 1 rfl
  obtain ⟨tX, qX0, fX0, qX1, fX1, qX2, fX2, qX3, fX3, qX4, fX4⟩ := M.f5 2 rfl
  obtain ⟨tP, qP0, fP0, qP1, fP1, qP2, fP2, qP3, fP3, qP4, fP4⟩ := M.f5 3 rfl
  go_wp2_with fail
  go_call (sPoolOk_v a b c d e tsx ksx fsx A0x A1x A2x c0x c1x c2x tnx stx true HZ.out _ hx0 hx1 hx2 ⟨M.rowS 4 rfl, M.rowS 5 rfl, M.rowS 6 rfl⟩) as r W2 ⟨rfl, g1⟩
  clear tR qR0 fR0 qR1 fR1 qR2 fR2 qR3 fR3 qR4 fR4 tZ qZ0 fZ0 qZ1 fZ1 qZ2 fZ2 qZ3 fZ3 qZ4 fZ4 tX qX0 fX0 qX1 fX1 qX2 fX2 qX3 fX3 qX4 fX4 tP qP0 fP0 qP1 fP1 qP2 fP2 qP3 fP3 qP4 fP4
  replace M := M.call g1
  have HI2 := hide (HI.out.below g1)
  clear g1 HI
  obtain ⟨tR, qR0, fR0, qR1, fR1, qR2, fR2, qR3, fR3, qR4, fR4⟩ := M.f5 0 rfl
  obtain ⟨tZ, qZ0, fZ0, qZ1, fZ1, qZ2, fZ2, qZ3, fZ3, qZ4, fZ4⟩ := M.f5 1 rfl
  obtain ⟨tX, qX0, fX0, qX1, fX1, qX2, fX2, qX3, fX3, qX4, fX4⟩ := M.f5 2 rfl
  obtain ⟨tP, qP0, fP0, qP1, fP1, qP2, fP2, qP3, fP3, qP4, fP4⟩ := M.f5 3 rfl
  go_wp2_with fail
  clear tR qR0 fR0 qR1 fR1 qR2 fR2 qR3 fR3 qR4 fR4 tZ qZ0 fZ0 qZ1 fZ1 qZ2 fZ2 qZ3 fZ3 qZ4 fZ4 tX qX0 fX0 qX1 fX1 qX2 fX2 qX3 fX3 qX4 fX4 tP qP0 fP0 qP1 fP1 qP2 fP2 qP3 fP3 qP4 fP4
  have N := M.gset5 0 rfl (.slice A0x tsx.length c0x) (.slice A1x ksx.length c1x) (.slice A2x fsx.length c2x) (.int .i64 tnx) (.bool stx)
  clear M
  obtain ⟨W3, eW, M⟩ := N
  rw [eW]
  clear eW
  simp only [List.set_cons_zero] at M
  obtain ⟨tR, qR0, qR1, qR2, qR3, qR4⟩ := M.q5 0 rfl
  exact bodyPost_ret (v := .tuple #[.agg #[.slice A0x tsx.length c0x, .slice A1x ksx.length c1x, .slice A2x fsx.length c2x, .int .i64 tnx, .bool stx], .bool true]) (by simp [results, Try.results75, go_sem, qR0, qR1, qR2, qR3, qR4]) rfl ⟨A0x, A1x, A2x, c0x, c1x, c2x, rfl, M.drop 4⟩

set_option maxRecDepth 100000 in
set_option maxHeartbeats 2000000 in
theorem either_no (a b c d e : Int) (ts : List T7) (ks : List Int) (fs : List F2) (A0 A1 A2 : Option Addr) (c0 c1 c2 : Nat) (tn : Int) (st : Bool) (tsx : List T7) (ksx : List Int) (fsx : List F2) (A0x A1x A2x : Option Addr) (c0x c1x c2x : Nat) (tnx : Int) (stx : Bool) (w : World) (ht : ts.length ≤ 1048576) (hk : ks.length ≤ 1048576) (hf : fs.length ≤ 1048576) (hx0 : tsx.length ≤ 1048576) (hx1 : ksx.length ≤ 1048576) (hx2 : fsx.length ≤ 1048576) (h : InPool w ts ks fs A0 A1 A2) (hx : Sep (fps [rT tsx.length A0x c0x tsx, rK ksx.length A1x c1x ksx, rF fsx.length A2x c2x fsx]) w w [rT tsx.length A0x c0x tsx, rK ksx.length A1x c1x ksx, rF fsx.length A2x c2x fsx]) (hz : poolB a b c d e tsx ksx fsx tnx = false) :
    Calls Try.prog 75 #[.agg #[.int .i64 a, .int .i64 b, .int .i64 c, .int .i64 d, .int .i64 e], .agg #[.slice A0 ts.length c0, .slice A1 ks.length c1, .slice A2 fs.length c2, .int .i64 tn, .bool st], .agg #[.slice A0x tsx.length c0x, .slice A1x ksx.length c1x, .slice A2x fsx.length c2x, .int .i64 tnx, .bool stx]] w fun r w' => ∃ (B0 B1 B2 : Option Addr) (d0 d1 d2 : Nat), r = .returned (.tuple #[.agg #[.slice B0 ts.length d0, .slice B1 ks.length d1, .slice B2 fs.length d2, .int .i64 tn, .bool st], .bool false]) ∧ Sep (fps [rT tsx.length A0x c0x tsx, rK ksx.length A1x c1x ksx, rF fsx.length A2x c2x fsx]) w w' [rT ts.length B0 d0 ts, rK ks.length B1 d1 ks, rF fs.length B2 d2 fs] := by
  have H := hide h
  have HX := hide hx
  have HZ := hide hz
  clear h hx hz
  go_enter Try.func75, Try.ntmps75
  go_wp2_with fail
  have hbel : Below w.heap.size w ((((w.alloc (.cells #[.int .i64 a, .int .i64 b, .int .i64 c, .int .i64 d, .int .i64 e] 28)).alloc (.cells #[.slice A0 ts.length c0, .slice A1 ks.length c1, .slice A2 fs.length c2, .int .i64 tn, .bool st] 34)).alloc (.cells #[.slice A0x tsx.length c0x, .slice A1x ksx.length c1x, .slice A2x fsx.length c2x, .int .i64 tnx, .bool stx] 34)).alloc (.cells #[.slice none 0 0, .slice none 0 0, .slice none 0 0, .int .i64 0, .bool false] 34)) := Sep.below (Sep.enter4 w)
  have M : Sep (fps [rT tsx.length A0x c0x tsx, rK ksx.length A1x c1x ksx, rF fsx.length A2x c2x fsx]) w ((((w.alloc (.cells #[.int .i64 a, .int .i64 b, .int .i64 c, .int .i64 d, .int .i64 e] 28)).alloc (.cells #[.slice A0 ts.length c0, .slice A1 ks.length c1, .slice A2 fs.length c2, .int .i64 tn, .bool st] 34)).alloc (.cells #[.slice A0x tsx.length c0x, .slice A1x ksx.length c1x, .slice A2x fsx.length c2x, .int .i64 tnx, .bool stx] 34)).alloc (.cells #[.slice none 0 0, .slice none 0 0, .slice none 0 0, .int .i64 0, .bool false] 34)) [.blk (w.heap.size + 3) 34 #[.slice none 0 0, .slice none 0 0, .slice none 0 0, .int .i64 0, .bool false], .blk (w.heap.size + 2) 34 #[.slice A0x tsx.length c0x, .slice A1x ksx.length c1x, .slice A2x fsx.length c2x, .int .i64 tnx, .bool stx], .blk (w.heap.size + 1) 34 #[.slice A0 ts.length c0, .slice A1 ks.length c1, .slice A2 fs.length c2, .int .i64 tn, .bool st], .blk (w.heap.size) 28 #[.int .i64 a, .int .i64 b, .int .i64 c, .int .i64 d, .int .i64 e], rT tsx.length A0x c0x tsx, rK ksx.length A1x c1x ksx, rF fsx.length A2x c2x fsx] := (Sep.alloc (Sep.alloc (Sep.alloc (Sep.alloc HX.out 28 #[.int .i64 a, .int .i64 b, .int .i64 c, .int .i64 d, .int .i64 e] (w.heap.size) (by simp)) 34 #[.slice A0 ts.length c0, .slice A1 ks.length c1, .slice A2 fs.length c2, .int .i64 tn, .bool st] (w.heap.size + 1) (by simp)) 34 #[.slice A0x tsx.length c0x, .slice A1x ksx.length c1x, .slice A2x fsx.length c2x, .int .i64 tnx, .bool stx] (w.heap.size + 2) (by simp)) 34 #[.slice none 0 0, .slice none 0 0, .slice none 0 0, .int .i64 0, .bool false] (w.heap.size + 3) (by simp))
  have HI : InPool ((((w.alloc (.cells #[.int .i64 a, .int .i64 b, .int .i64 c, .int .i64 d, .int .i64 e] 28)).alloc (.cells #[.slice A0 ts.length c0, .slice A1 ks.length c1, .slice A2 fs.length c2, .int .i64 tn, .bool st] 34)).alloc (.cells #[.slice A0x tsx.length c0x, .slice A1x ksx.length c1x, .slice A2x fsx.length c2x, .int .i64 tnx, .bool stx] 34)).alloc (.cells #[.slice none 0 0, .slice none 0 0, .slice none 0 0, .int .i64 0, .bool false] 34)) ts ks fs A0 A1 A2 := H.out.below hbel
  clear hbel
  generalize (((w.alloc (.cells #[.int .i64 a, .int .i64 b, .int .i64 c, .int .i64 d, .int .i64 e] 28)).alloc (.cells #[.slice A0 ts.length c0, .slice A1 ks.length c1, .slice A2 fs.length c2, .int .i64 tn, .bool st] 34)).alloc (.cells #[.slice A0x tsx.length c0x, .slice A1x ksx.length c1x, .slice A2x fsx.length c2x, .int .i64 tnx, .bool stx] 34)).alloc (.cells #[.slice none 0 0, .slice none 0 0, .slice none 0 0, .int .i64 0, .bool false] 34) = W1 at M HI ⊢
  replace HI := hide HI
  obtain ⟨tR, qR0, fR0, qR1, fR1, qR2, fR2, qR3, fR3, qR4, fR4⟩ := M.f5 0 rfl
  obtain ⟨tZ, qZ0, fZ0, qZ1, fZ1, qZ2, fZ2, qZ3, fZ3, qZ4, fZ4⟩ := M.f5 1 rfl
  obtain ⟨tX, qX0, fX0, qX1, fX1, qX2, fX2, qX3, fX3, qX4, fX4⟩ := M.f5 2 rfl
  obtain ⟨tP, qP0, fP0, qP1, fP1, qP2, fP2, qP3, fP3, qP4, fP4⟩ := M.f5 3 rfl
  go_wp2_with fail
  go_call (sPoolOk_v a b c d e tsx ksx fsx A0x A1x A2x c0x c1x c2x tnx stx false HZ.out _ hx0 hx1 hx2 ⟨M.rowS 4 rfl, M.rowS 5 rfl, M.rowS 6 rfl⟩) as r W2 ⟨rfl, g1⟩
  clear tR qR0 fR0 qR1 fR1 qR2 fR2 qR3 fR3 qR4 fR4 tZ qZ0 fZ0 qZ1 fZ1 qZ2 fZ2 qZ3 fZ3 qZ4 fZ4 tX qX0 fX0 qX1 fX1 qX2 fX2 qX3 fX3 qX4 fX4 tP qP0 fP0 qP1 fP1 qP2 fP2 qP3 fP3 qP4 fP4
  replace M := M.call g1
  have HI2 := hide (HI.out.below g1)
  clear g1 HI
  obtain ⟨tR, qR0, fR0, qR1, fR1, qR2, fR2, qR3, fR3, qR4, fR4⟩ := M.f5 0 rfl
  obtain ⟨tZ, qZ0, fZ0, qZ1, fZ1, qZ2, fZ2, qZ3, fZ3, qZ4, fZ4⟩ := M.f5 1 rfl
  obtain ⟨tX, qX0, fX0, qX1, fX1, qX2, fX2, qX3, fX3, qX4, fX4⟩ := M.f5 2 rfl
  obtain ⟨tP, qP0, fP0, qP1, fP1, qP2, fP2, qP3, fP3, qP4, fP4⟩ := M.f5 3 rfl
  go_wp2_with fail
  go_call (l3Copy_s ts ks fs A0 A1 A2 c0 c1 c2 tn st _ ht hk hf HI2.out) as r W3 ⟨C0, C1, C2, e0, e1, e2, rfl, g1⟩
  clear tR qR0 fR0 qR1 fR1 qR2 fR2 qR3 fR3 qR4 fR4 tZ qZ0 fZ0 qZ1 fZ1 qZ2 fZ2 qZ3 fZ3 qZ4 fZ4 tX qX0 fX0 qX1 fX1 qX2 fX2 qX3 fX3 qX4 fX4 tP qP0 fP0 qP1 fP1 qP2 fP2 qP3 fP3 qP4 fP4
  replace M := Sep.new M g1
  simp only [List.cons_append, List.nil_append] at M
  clear g1
  obtain ⟨tR, qR0, fR0, qR1, fR1, qR2, fR2, qR3, fR3, qR4, fR4⟩ := M.f5 3 rfl
  obtain ⟨tZ, qZ0, fZ0, qZ1, fZ1, qZ2, fZ2, qZ3, fZ3, qZ4, fZ4⟩ := M.f5 4 rfl
  obtain ⟨tX, qX0, fX0, qX1, fX1, qX2, fX2, qX3, fX3, qX4, fX4⟩ := M.f5 5 rfl
  obtain ⟨tP, qP0, fP0, qP1, fP1, qP2, fP2, qP3, fP3, qP4, fP4⟩ := M.f5 6 rfl
  go_wp2_with fail
  clear tR qR0 fR0 qR1 fR1 qR2 fR2 qR3 fR3 qR4 fR4 tZ qZ0 fZ0 qZ1 fZ1 qZ2 fZ2 qZ3 fZ3 qZ4 fZ4 tX qX0 fX0 qX1 fX1 qX2 fX2 qX3 fX3 qX4 fX4 tP qP0 fP0 qP1 fP1 qP2 fP2 qP3 fP3 qP4 fP4
  have N := M.gset5 3 rfl (.slice C0 ts.length e0) (.slice C1 ks.length e1) (.slice C2 fs.length e2) (.int .i64 tn) (.bool st)
  clear M
  obtain ⟨W4, eW, M⟩ := N
  rw [eW]
  clear eW
  simp only [List.set_cons_zero, List.set_cons_succ] at M
  obtain ⟨tR, qR0, qR1, qR2, qR3, qR4⟩ := M.q5 3 rfl
  exact bodyPost_ret (v := .tuple #[.agg #[.slice C0 ts.length e0, .slice C1 ks.length e1, .slice C2 fs.length e2, .int .i64 tn, .bool st], .bool false]) (by simp [results, Try.results75, go_sem, qR0, qR1, qR2, qR3, qR4]) rfl ⟨C0, C1, C2, e0, e1, e2, rfl, M.take 3⟩

end Go.Proofs.Ytgncjcnobojgbaa
