/- The program's Woken and ParkedBy, way by way. Lists no longer than a million. -/
import Derived.Test.YtgbckcidmojnoaaGWake
import Derived.Test.YtgbckcidmojnoaaSWoken
import Derived.Test.YtgbckcidmojnoaaCopied
namespace Go.Proofs.Ytgbckcidmojnoaa
open Go.RowKit
set_option linter.unusedVariables false

theorem pright_v (a b c d e : Int) (ts : List T7) (ks : List Int) (fs : List F2) (A0 A1 A2 : Option Addr) (c0 c1 c2 : Nat) (tn : Int) (st : Bool) (g : Nat) (z : Bool) (hz : poolB a b c d e ts ks fs tn = z) (w : World) (hk : ks.length ≤ 1048576) (hf : fs.length ≤ 1048576) (hg : Blk w g 34 #[.slice A0 ts.length c0, .slice A1 ks.length c1, .slice A2 fs.length c2, .int .i64 tn, .bool st]) (h : InPool w ts ks fs A0 A1 A2) :
    Calls Try.prog 57 #[.pointer (some ⟨g, 0, none⟩), .agg #[.int .i64 a, .int .i64 b, .int .i64 c, .int .i64 d, .int .i64 e]] w fun r w' => r = .returned (.bool z) ∧ Below w.heap.size w w' := hz ▸ pright_any a b c d e ts ks fs A0 A1 A2 c0 c1 c2 tn st g w hk hf hg h
theorem copied_s (ts : List T7) (ks : List Int) (fs : List F2) (A0 A1 A2 : Option Addr) (c0 c1 c2 : Nat) (tn : Int) (st : Bool) (g : Nat) (w : World) (l0 : ts.length ≤ 1048576) (l1 : ks.length ≤ 1048576) (l2 : fs.length ≤ 1048576) (hg : Blk w g 34 #[.slice A0 ts.length c0, .slice A1 ks.length c1, .slice A2 fs.length c2, .int .i64 tn, .bool st]) (h : InPool w ts ks fs A0 A1 A2) :
    Calls Try.prog 49 #[.pointer (some ⟨g, 0, none⟩)] w fun r w' => ∃ (B0 B1 B2 : Option Addr) (d0 d1 d2 : Nat), r = .returned (.agg #[.slice B0 ts.length d0, .slice B1 ks.length d1, .slice B2 fs.length d2, .int .i64 tn, .bool st]) ∧ Sep [] w w' [rT ts.length B0 d0 ts, rK ks.length B1 d1 ks, rF fs.length B2 d2 fs] :=
  (copied_any ts ks fs A0 A1 A2 c0 c1 c2 tn st g w l0 l1 l2 hg h).mono fun r w' ⟨B0, B1, B2, d0, d1, d2, hr, ho, hb⟩ => ⟨B0, B1, B2, d0, d1, d2, hr, sepPool (Nat.le_refl _) hb ho⟩

set_option maxRecDepth 100000 in
set_option maxHeartbeats 2000000 in
theorem gWoken_bad (a b c d e : Int) (ts : List T7) (ks : List Int) (fs : List F2) (A0 A1 A2 : Option Addr) (c0 c1 c2 : Nat) (tn : Int) (st : Bool) (id : Int) (v0 : Int) (w : World) (ht : ts.length ≤ 1048576) (hk : ks.length ≤ 1048576) (hf : fs.length ≤ 1048576) (h : InPool w ts ks fs A0 A1 A2) (hp : poolB a b c d e ts ks fs tn = false) :
    Calls Try.prog 41 #[.agg #[.int .i64 a, .int .i64 b, .int .i64 c, .int .i64 d, .int .i64 e], .agg #[.slice A0 ts.length c0, .slice A1 ks.length c1, .slice A2 fs.length c2, .int .i64 tn, .bool st], .int .i64 id, .int .i64 v0] w (GaveP [] [] [] 0 false false w) := by
  have HY := hide (⟨hp, trivial⟩ : _ ∧ True)
  clear hp
  have H := hide h
  clear h
  go_enter Try.func41, Try.ntmps41
  go_wp2_with fail
  have M : Sep [] w (((w.alloc (.cells #[.int .i64 a, .int .i64 b, .int .i64 c, .int .i64 d, .int .i64 e] 28)).alloc (.cells #[.slice A0 ts.length c0, .slice A1 ks.length c1, .slice A2 fs.length c2, .int .i64 tn, .bool st] 34)).alloc (.cells #[.slice none 0 0, .slice none 0 0, .slice none 0 0, .int .i64 0, .bool false] 34)) [.blk (w.heap.size + 2) 34 #[.slice none 0 0, .slice none 0 0, .slice none 0 0, .int .i64 0, .bool false], .blk (w.heap.size + 1) 34 #[.slice A0 ts.length c0, .slice A1 ks.length c1, .slice A2 fs.length c2, .int .i64 tn, .bool st], .blk (w.heap.size) 28 #[.int .i64 a, .int .i64 b, .int .i64 c, .int .i64 d, .int .i64 e]] := Sep.enter3 w
  generalize ((w.alloc (.cells #[.int .i64 a, .int .i64 b, .int .i64 c, .int .i64 d, .int .i64 e] 28)).alloc (.cells #[.slice A0 ts.length c0, .slice A1 ks.length c1, .slice A2 fs.length c2, .int .i64 tn, .bool st] 34)).alloc (.cells #[.slice none 0 0, .slice none 0 0, .slice none 0 0, .int .i64 0, .bool false] 34) = W1 at M ⊢
  obtain ⟨tR, qR0, fR0, qR1, fR1, qR2, fR2, qR3, fR3, qR4, fR4⟩ := M.f5 0 rfl
  obtain ⟨tX, qX0, fX0, qX1, fX1, qX2, fX2, qX3, fX3, qX4, fX4⟩ := M.f5 1 rfl
  obtain ⟨tP, qP0, fP0, qP1, fP1, qP2, fP2, qP3, fP3, qP4, fP4⟩ := M.f5 2 rfl
  go_wp2_with fail
  go_call (pright_v a b c d e ts ks fs A0 A1 A2 c0 c1 c2 tn st _ false HY.out.1 _ hk hf (M.blk 1 rfl) (H.out.below M.below)) as r W2 ⟨rfl, g1⟩
  clear tR qR0 fR0 qR1 fR1 qR2 fR2 qR3 fR3 qR4 fR4 tX qX0 fX0 qX1 fX1 qX2 fX2 qX3 fX3 qX4 fX4 tP qP0 fP0 qP1 fP1 qP2 fP2 qP3 fP3 qP4 fP4
  replace M := M.call g1
  clear g1
  obtain ⟨tR, qR0, fR0, qR1, fR1, qR2, fR2, qR3, fR3, qR4, fR4⟩ := M.f5 0 rfl
  obtain ⟨tX, qX0, fX0, qX1, fX1, qX2, fX2, qX3, fX3, qX4, fX4⟩ := M.f5 1 rfl
  obtain ⟨tP, qP0, fP0, qP1, fP1, qP2, fP2, qP3, fP3, qP4, fP4⟩ := M.f5 2 rfl
  go_wp2_with fail
  clear tR qR0 fR0 qR1 fR1 qR2 fR2 qR3 fR3 qR4 fR4 tX qX0 fX0 qX1 fX1 qX2 fX2 qX3 fX3 qX4 fX4 tP qP0 fP0 qP1 fP1 qP2 fP2 qP3 fP3 qP4 fP4
  replace M : Sep [] w (((((W2.setCell ⟨w.heap.size + 2, 0, none⟩ (.slice none 0 0)).setCell ⟨w.heap.size + 2, 1, none⟩ (.slice none 0 0)).setCell ⟨w.heap.size + 2, 2, none⟩ (.slice none 0 0)).setCell ⟨w.heap.size + 2, 3, none⟩ (.int .i64 0)).setCell ⟨w.heap.size + 2, 4, none⟩ (.bool false)) [.blk (w.heap.size + 2) 34 #[.slice none 0 0, .slice none 0 0, .slice none 0 0, .int .i64 0, .bool false], .blk (w.heap.size + 1) 34 #[.slice A0 ts.length c0, .slice A1 ks.length c1, .slice A2 fs.length c2, .int .i64 tn, .bool st], .blk (w.heap.size) 28 #[.int .i64 a, .int .i64 b, .int .i64 c, .int .i64 d, .int .i64 e]] := M.set5 0 rfl (.slice none 0 0) (.slice none 0 0) (.slice none 0 0) (.int .i64 0) (.bool false)
  generalize ((((W2.setCell ⟨w.heap.size + 2, 0, none⟩ (.slice none 0 0)).setCell ⟨w.heap.size + 2, 1, none⟩ (.slice none 0 0)).setCell ⟨w.heap.size + 2, 2, none⟩ (.slice none 0 0)).setCell ⟨w.heap.size + 2, 3, none⟩ (.int .i64 0)).setCell ⟨w.heap.size + 2, 4, none⟩ (.bool false) = W3 at M ⊢
  obtain ⟨tR, qR0, qR1, qR2, qR3, qR4⟩ := M.q5 0 rfl
  exact bodyPost_ret (v := .tuple #[.agg #[.slice none 0 0, .slice none 0 0, .slice none 0 0, .int .i64 0, .bool false], .bool false]) (by simp [results, Try.results41, go_sem, qR0, qR1, qR2, qR3, qR4]) rfl ⟨none, none, none, 0, 0, 0, rfl, sep_zero M.below⟩

set_option maxRecDepth 100000 in
set_option maxHeartbeats 2000000 in
theorem gWoken_no (a b c d e : Int) (ts : List T7) (ks : List Int) (fs : List F2) (A0 A1 A2 : Option Addr) (c0 c1 c2 : Nat) (tn : Int) (st : Bool) (id : Int) (v0 : Int) (w : World) (ht : ts.length ≤ 1048576) (hk : ks.length ≤ 1048576) (hf : fs.length ≤ 1048576) (h : InPool w ts ks fs A0 A1 A2) (hp : poolB a b c d e ts ks fs tn = true) (hc : canB ts id v0 tn = false) :
    Calls Try.prog 41 #[.agg #[.int .i64 a, .int .i64 b, .int .i64 c, .int .i64 d, .int .i64 e], .agg #[.slice A0 ts.length c0, .slice A1 ks.length c1, .slice A2 fs.length c2, .int .i64 tn, .bool st], .int .i64 id, .int .i64 v0] w (GaveP ts ks fs tn st false w) := by
  have HY := hide (⟨hp, hc, trivial⟩ : _ ∧ _ ∧ True)
  clear hp hc
  have H := hide h
  clear h
  go_enter Try.func41, Try.ntmps41
  go_wp2_with fail
  have M : Sep [] w (((w.alloc (.cells #[.int .i64 a, .int .i64 b, .int .i64 c, .int .i64 d, .int .i64 e] 28)).alloc (.cells #[.slice A0 ts.length c0, .slice A1 ks.length c1, .slice A2 fs.length c2, .int .i64 tn, .bool st] 34)).alloc (.cells #[.slice none 0 0, .slice none 0 0, .slice none 0 0, .int .i64 0, .bool false] 34)) [.blk (w.heap.size + 2) 34 #[.slice none 0 0, .slice none 0 0, .slice none 0 0, .int .i64 0, .bool false], .blk (w.heap.size + 1) 34 #[.slice A0 ts.length c0, .slice A1 ks.length c1, .slice A2 fs.length c2, .int .i64 tn, .bool st], .blk (w.heap.size) 28 #[.int .i64 a, .int .i64 b, .int .i64 c, .int .i64 d, .int .i64 e]] := Sep.enter3 w
  generalize ((w.alloc (.cells #[.int .i64 a, .int .i64 b, .int .i64 c, .int .i64 d, .int .i64 e] 28)).alloc (.cells #[.slice A0 ts.length c0, .slice A1 ks.length c1, .slice A2 fs.length c2, .int .i64 tn, .bool st] 34)).alloc (.cells #[.slice none 0 0, .slice none 0 0, .slice none 0 0, .int .i64 0, .bool false] 34) = W1 at M ⊢
  obtain ⟨tR, qR0, fR0, qR1, fR1, qR2, fR2, qR3, fR3, qR4, fR4⟩ := M.f5 0 rfl
  obtain ⟨tX, qX0, fX0, qX1, fX1, qX2, fX2, qX3, fX3, qX4, fX4⟩ := M.f5 1 rfl
  obtain ⟨tP, qP0, fP0, qP1, fP1, qP2, fP2, qP3, fP3, qP4, fP4⟩ := M.f5 2 rfl
  go_wp2_with fail
  go_call (pright_v a b c d e ts ks fs A0 A1 A2 c0 c1 c2 tn st _ true HY.out.1 _ hk hf (M.blk 1 rfl) (H.out.below M.below)) as r W2 ⟨rfl, g1⟩
  clear tR qR0 fR0 qR1 fR1 qR2 fR2 qR3 fR3 qR4 fR4 tX qX0 fX0 qX1 fX1 qX2 fX2 qX3 fX3 qX4 fX4 tP qP0 fP0 qP1 fP1 qP2 fP2 qP3 fP3 qP4 fP4
  replace M := M.call g1
  clear g1
  obtain ⟨tR, qR0, fR0, qR1, fR1, qR2, fR2, qR3, fR3, qR4, fR4⟩ := M.f5 0 rfl
  obtain ⟨tX, qX0, fX0, qX1, fX1, qX2, fX2, qX3, fX3, qX4, fX4⟩ := M.f5 1 rfl
  obtain ⟨tP, qP0, fP0, qP1, fP1, qP2, fP2, qP3, fP3, qP4, fP4⟩ := M.f5 2 rfl
  go_wp2_with fail
  go_call (copied_s ts ks fs A0 A1 A2 c0 c1 c2 tn st _ _ ht hk hf (M.blk 1 rfl) (H.out.below M.below)) as r W3 ⟨C0, C1, C2, e0, e1, e2, rfl, g1⟩
  clear tR qR0 fR0 qR1 fR1 qR2 fR2 qR3 fR3 qR4 fR4 tX qX0 fX0 qX1 fX1 qX2 fX2 qX3 fX3 qX4 fX4 tP qP0 fP0 qP1 fP1 qP2 fP2 qP3 fP3 qP4 fP4
  replace M : Sep [] w W3 [rT ts.length C0 e0 ts, rK ks.length C1 e1 ks, rF fs.length C2 e2 fs, .blk (w.heap.size + 2) 34 #[.slice none 0 0, .slice none 0 0, .slice none 0 0, .int .i64 0, .bool false], .blk (w.heap.size + 1) 34 #[.slice A0 ts.length c0, .slice A1 ks.length c1, .slice A2 fs.length c2, .int .i64 tn, .bool st], .blk (w.heap.size) 28 #[.int .i64 a, .int .i64 b, .int .i64 c, .int .i64 d, .int .i64 e]] := Sep.comp (ps := []) (rs := [.blk (w.heap.size + 2) 34 #[.slice none 0 0, .slice none 0 0, .slice none 0 0, .int .i64 0, .bool false], .blk (w.heap.size + 1) 34 #[.slice A0 ts.length c0, .slice A1 ks.length c1, .slice A2 fs.length c2, .int .i64 tn, .bool st], .blk (w.heap.size) 28 #[.int .i64 a, .int .i64 b, .int .i64 c, .int .i64 d, .int .i64 e]]) M g1
  clear g1
  obtain ⟨tR, qR0, fR0, qR1, fR1, qR2, fR2, qR3, fR3, qR4, fR4⟩ := M.f5 3 rfl
  obtain ⟨tX, qX0, fX0, qX1, fX1, qX2, fX2, qX3, fX3, qX4, fX4⟩ := M.f5 4 rfl
  obtain ⟨tP, qP0, fP0, qP1, fP1, qP2, fP2, qP3, fP3, qP4, fP4⟩ := M.f5 5 rfl
  go_wp2_with fail
  clear tR qR0 fR0 qR1 fR1 qR2 fR2 qR3 fR3 qR4 fR4 tX qX0 fX0 qX1 fX1 qX2 fX2 qX3 fX3 qX4 fX4 tP qP0 fP0 qP1 fP1 qP2 fP2 qP3 fP3 qP4 fP4
  replace M : Sep [] w (W3.alloc (.cells #[.slice C0 ts.length e0, .slice C1 ks.length e1, .slice C2 fs.length e2, .int .i64 tn, .bool st] 34)) [.blk (W3.heap.size) 34 #[.slice C0 ts.length e0, .slice C1 ks.length e1, .slice C2 fs.length e2, .int .i64 tn, .bool st], rT ts.length C0 e0 ts, rK ks.length C1 e1 ks, rF fs.length C2 e2 fs, .blk (w.heap.size + 2) 34 #[.slice none 0 0, .slice none 0 0, .slice none 0 0, .int .i64 0, .bool false], .blk (w.heap.size + 1) 34 #[.slice A0 ts.length c0, .slice A1 ks.length c1, .slice A2 fs.length c2, .int .i64 tn, .bool st], .blk (w.heap.size) 28 #[.int .i64 a, .int .i64 b, .int .i64 c, .int .i64 d, .int .i64 e]] := M.allocN 34 #[.slice C0 ts.length e0, .slice C1 ks.length e1, .slice C2 fs.length e2, .int .i64 tn, .bool st]
  generalize W3.alloc (.cells #[.slice C0 ts.length e0, .slice C1 ks.length e1, .slice C2 fs.length e2, .int .i64 tn, .bool st] 34) = W4 at M ⊢
  obtain ⟨tY, qY0, fY0, qY1, fY1, qY2, fY2, qY3, fY3, qY4, fY4⟩ := M.f5 0 rfl
  obtain ⟨tR, qR0, fR0, qR1, fR1, qR2, fR2, qR3, fR3, qR4, fR4⟩ := M.f5 4 rfl
  obtain ⟨tX, qX0, fX0, qX1, fX1, qX2, fX2, qX3, fX3, qX4, fX4⟩ := M.f5 5 rfl
  obtain ⟨tP, qP0, fP0, qP1, fP1, qP2, fP2, qP3, fP3, qP4, fP4⟩ := M.f5 6 rfl
  go_wp2_with fail
  go_call (wake_no ts C0 C1 C2 e0 ks.length e1 fs.length e2 tn st _ id v0 _ ht (M.blk 0 rfl) (M.rowS 1 rfl) HY.out.2.1) as r W5 ⟨rfl, g1⟩
  clear tY qY0 fY0 qY1 fY1 qY2 fY2 qY3 fY3 qY4 fY4 tR qR0 fR0 qR1 fR1 qR2 fR2 qR3 fR3 qR4 fR4 tX qX0 fX0 qX1 fX1 qX2 fX2 qX3 fX3 qX4 fX4 tP qP0 fP0 qP1 fP1 qP2 fP2 qP3 fP3 qP4 fP4
  replace M := M.call g1
  clear g1
  obtain ⟨tY, qY0, fY0, qY1, fY1, qY2, fY2, qY3, fY3, qY4, fY4⟩ := M.f5 0 rfl
  obtain ⟨tR, qR0, fR0, qR1, fR1, qR2, fR2, qR3, fR3, qR4, fR4⟩ := M.f5 4 rfl
  obtain ⟨tX, qX0, fX0, qX1, fX1, qX2, fX2, qX3, fX3, qX4, fX4⟩ := M.f5 5 rfl
  obtain ⟨tP, qP0, fP0, qP1, fP1, qP2, fP2, qP3, fP3, qP4, fP4⟩ := M.f5 6 rfl
  go_wp2_with fail
  clear tY qY0 fY0 qY1 fY1 qY2 fY2 qY3 fY3 qY4 fY4 tR qR0 fR0 qR1 fR1 qR2 fR2 qR3 fR3 qR4 fR4 tX qX0 fX0 qX1 fX1 qX2 fX2 qX3 fX3 qX4 fX4 tP qP0 fP0 qP1 fP1 qP2 fP2 qP3 fP3 qP4 fP4
  replace M : Sep [] w (((((W5.setCell ⟨w.heap.size + 2, 0, none⟩ (.slice C0 ts.length e0)).setCell ⟨w.heap.size + 2, 1, none⟩ (.slice C1 ks.length e1)).setCell ⟨w.heap.size + 2, 2, none⟩ (.slice C2 fs.length e2)).setCell ⟨w.heap.size + 2, 3, none⟩ (.int .i64 tn)).setCell ⟨w.heap.size + 2, 4, none⟩ (.bool st)) [.blk (W3.heap.size) 34 #[.slice C0 ts.length e0, .slice C1 ks.length e1, .slice C2 fs.length e2, .int .i64 tn, .bool st], rT ts.length C0 e0 ts, rK ks.length C1 e1 ks, rF fs.length C2 e2 fs, .blk (w.heap.size + 2) 34 #[.slice C0 ts.length e0, .slice C1 ks.length e1, .slice C2 fs.length e2, .int .i64 tn, .bool st], .blk (w.heap.size + 1) 34 #[.slice A0 ts.length c0, .slice A1 ks.length c1, .slice A2 fs.length c2, .int .i64 tn, .bool st], .blk (w.heap.size) 28 #[.int .i64 a, .int .i64 b, .int .i64 c, .int .i64 d, .int .i64 e]] := M.set5 4 rfl (.slice C0 ts.length e0) (.slice C1 ks.length e1) (.slice C2 fs.length e2) (.int .i64 tn) (.bool st)
  generalize ((((W5.setCell ⟨w.heap.size + 2, 0, none⟩ (.slice C0 ts.length e0)).setCell ⟨w.heap.size + 2, 1, none⟩ (.slice C1 ks.length e1)).setCell ⟨w.heap.size + 2, 2, none⟩ (.slice C2 fs.length e2)).setCell ⟨w.heap.size + 2, 3, none⟩ (.int .i64 tn)).setCell ⟨w.heap.size + 2, 4, none⟩ (.bool st) = W6 at M ⊢
  obtain ⟨tR, qR0, qR1, qR2, qR3, qR4⟩ := M.q5 4 rfl
  exact bodyPost_ret (v := .tuple #[.agg #[.slice C0 ts.length e0, .slice C1 ks.length e1, .slice C2 fs.length e2, .int .i64 tn, .bool st], .bool false]) (by simp [results, Try.results41, go_sem, qR0, qR1, qR2, qR3, qR4]) rfl ⟨C0, C1, C2, e0, e1, e2, rfl, (M.tail).take 3⟩

set_option maxRecDepth 100000 in
set_option maxHeartbeats 2000000 in
theorem gWoken_yes (a b c d e : Int) (ts : List T7) (ks : List Int) (fs : List F2) (A0 A1 A2 : Option Addr) (c0 c1 c2 : Nat) (tn : Int) (st : Bool) (id : Int) (v0 : Int) (w : World) (ht : ts.length ≤ 1048576) (hk : ks.length ≤ 1048576) (hf : fs.length ≤ 1048576) (h : InPool w ts ks fs A0 A1 A2) (hp : poolB a b c d e ts ks fs tn = true) (k : Nat) (s l o1 wt on v t : Int) (hid : id = k) (hts : ts[k]? = some ⟨s, l, o1, wt, on, v, t⟩) (hc : canB ts k v0 tn = true) :
    Calls Try.prog 41 #[.agg #[.int .i64 a, .int .i64 b, .int .i64 c, .int .i64 d, .int .i64 e], .agg #[.slice A0 ts.length c0, .slice A1 ks.length c1, .slice A2 fs.length c2, .int .i64 tn, .bool st], .int .i64 id, .int .i64 v0] w (GaveP (ts.set k (wakeT ⟨s, l, o1, wt, on, v, t⟩ tn v0)) ks fs (tn + 1) st true w) := by
  have hkl : k < ts.length := by
    rcases Nat.lt_or_ge k ts.length with h1 | h1
    · exact h1
    · rw [List.getElem?_eq_none h1] at hts; cases hts
  have tb : 0 ≤ tn ∧ tn ≤ 1000000 := by
    have h1 := hp
    simp only [poolB, Bool.and_eq_true] at h1
    have h2 := h1.2.1
    simp [btw] at h2
    exact h2
  obtain ⟨tb0, tb1⟩ := tb
  subst hid
  have H := hide h
  clear h
  have HY := hide (⟨hp, hts, hc, trivial⟩ : _ ∧ _ ∧ _ ∧ True)
  clear hp hts hc
  go_enter Try.func41, Try.ntmps41
  go_wp2_with fail
  have M : Sep [] w (((w.alloc (.cells #[.int .i64 a, .int .i64 b, .int .i64 c, .int .i64 d, .int .i64 e] 28)).alloc (.cells #[.slice A0 ts.length c0, .slice A1 ks.length c1, .slice A2 fs.length c2, .int .i64 tn, .bool st] 34)).alloc (.cells #[.slice none 0 0, .slice none 0 0, .slice none 0 0, .int .i64 0, .bool false] 34)) [.blk (w.heap.size + 2) 34 #[.slice none 0 0, .slice none 0 0, .slice none 0 0, .int .i64 0, .bool false], .blk (w.heap.size + 1) 34 #[.slice A0 ts.length c0, .slice A1 ks.length c1, .slice A2 fs.length c2, .int .i64 tn, .bool st], .blk (w.heap.size) 28 #[.int .i64 a, .int .i64 b, .int .i64 c, .int .i64 d, .int .i64 e]] := Sep.enter3 w
  generalize ((w.alloc (.cells #[.int .i64 a, .int .i64 b, .int .i64 c, .int .i64 d, .int .i64 e] 28)).alloc (.cells #[.slice A0 ts.length c0, .slice A1 ks.length c1, .slice A2 fs.length c2, .int .i64 tn, .bool st] 34)).alloc (.cells #[.slice none 0 0, .slice none 0 0, .slice none 0 0, .int .i64 0, .bool false] 34) = W1 at M ⊢
  obtain ⟨tR, qR0, fR0, qR1, fR1, qR2, fR2, qR3, fR3, qR4, fR4⟩ := M.f5 0 rfl
  obtain ⟨tX, qX0, fX0, qX1, fX1, qX2, fX2, qX3, fX3, qX4, fX4⟩ := M.f5 1 rfl
  obtain ⟨tP, qP0, fP0, qP1, fP1, qP2, fP2, qP3, fP3, qP4, fP4⟩ := M.f5 2 rfl
  go_wp2_with fail
  go_call (pright_v a b c d e ts ks fs A0 A1 A2 c0 c1 c2 tn st _ true HY.out.1 _ hk hf (M.blk 1 rfl) (H.out.below M.below)) as r W2 ⟨rfl, g1⟩
  clear tR qR0 fR0 qR1 fR1 qR2 fR2 qR3 fR3 qR4 fR4 tX qX0 fX0 qX1 fX1 qX2 fX2 qX3 fX3 qX4 fX4 tP qP0 fP0 qP1 fP1 qP2 fP2 qP3 fP3 qP4 fP4
  replace M := M.call g1
  clear g1
  obtain ⟨tR, qR0, fR0, qR1, fR1, qR2, fR2, qR3, fR3, qR4, fR4⟩ := M.f5 0 rfl
  obtain ⟨tX, qX0, fX0, qX1, fX1, qX2, fX2, qX3, fX3, qX4, fX4⟩ := M.f5 1 rfl
  obtain ⟨tP, qP0, fP0, qP1, fP1, qP2, fP2, qP3, fP3, qP4, fP4⟩ := M.f5 2 rfl
  go_wp2_with fail
  go_call (copied_s ts ks fs A0 A1 A2 c0 c1 c2 tn st _ _ ht hk hf (M.blk 1 rfl) (H.out.below M.below)) as r W3 ⟨C0, C1, C2, e0, e1, e2, rfl, g1⟩
  clear tR qR0 fR0 qR1 fR1 qR2 fR2 qR3 fR3 qR4 fR4 tX qX0 fX0 qX1 fX1 qX2 fX2 qX3 fX3 qX4 fX4 tP qP0 fP0 qP1 fP1 qP2 fP2 qP3 fP3 qP4 fP4
  replace M : Sep [] w W3 [rT ts.length C0 e0 ts, rK ks.length C1 e1 ks, rF fs.length C2 e2 fs, .blk (w.heap.size + 2) 34 #[.slice none 0 0, .slice none 0 0, .slice none 0 0, .int .i64 0, .bool false], .blk (w.heap.size + 1) 34 #[.slice A0 ts.length c0, .slice A1 ks.length c1, .slice A2 fs.length c2, .int .i64 tn, .bool st], .blk (w.heap.size) 28 #[.int .i64 a, .int .i64 b, .int .i64 c, .int .i64 d, .int .i64 e]] := Sep.comp (ps := []) (rs := [.blk (w.heap.size + 2) 34 #[.slice none 0 0, .slice none 0 0, .slice none 0 0, .int .i64 0, .bool false], .blk (w.heap.size + 1) 34 #[.slice A0 ts.length c0, .slice A1 ks.length c1, .slice A2 fs.length c2, .int .i64 tn, .bool st], .blk (w.heap.size) 28 #[.int .i64 a, .int .i64 b, .int .i64 c, .int .i64 d, .int .i64 e]]) M g1
  clear g1
  obtain ⟨tR, qR0, fR0, qR1, fR1, qR2, fR2, qR3, fR3, qR4, fR4⟩ := M.f5 3 rfl
  obtain ⟨tX, qX0, fX0, qX1, fX1, qX2, fX2, qX3, fX3, qX4, fX4⟩ := M.f5 4 rfl
  obtain ⟨tP, qP0, fP0, qP1, fP1, qP2, fP2, qP3, fP3, qP4, fP4⟩ := M.f5 5 rfl
  go_wp2_with fail
  clear tR qR0 fR0 qR1 fR1 qR2 fR2 qR3 fR3 qR4 fR4 tX qX0 fX0 qX1 fX1 qX2 fX2 qX3 fX3 qX4 fX4 tP qP0 fP0 qP1 fP1 qP2 fP2 qP3 fP3 qP4 fP4
  replace M : Sep [] w (W3.alloc (.cells #[.slice C0 ts.length e0, .slice C1 ks.length e1, .slice C2 fs.length e2, .int .i64 tn, .bool st] 34)) [.blk (W3.heap.size) 34 #[.slice C0 ts.length e0, .slice C1 ks.length e1, .slice C2 fs.length e2, .int .i64 tn, .bool st], rT ts.length C0 e0 ts, rK ks.length C1 e1 ks, rF fs.length C2 e2 fs, .blk (w.heap.size + 2) 34 #[.slice none 0 0, .slice none 0 0, .slice none 0 0, .int .i64 0, .bool false], .blk (w.heap.size + 1) 34 #[.slice A0 ts.length c0, .slice A1 ks.length c1, .slice A2 fs.length c2, .int .i64 tn, .bool st], .blk (w.heap.size) 28 #[.int .i64 a, .int .i64 b, .int .i64 c, .int .i64 d, .int .i64 e]] := M.allocN 34 #[.slice C0 ts.length e0, .slice C1 ks.length e1, .slice C2 fs.length e2, .int .i64 tn, .bool st]
  generalize W3.alloc (.cells #[.slice C0 ts.length e0, .slice C1 ks.length e1, .slice C2 fs.length e2, .int .i64 tn, .bool st] 34) = W4 at M ⊢
  obtain ⟨tY, qY0, fY0, qY1, fY1, qY2, fY2, qY3, fY3, qY4, fY4⟩ := M.f5 0 rfl
  obtain ⟨tR, qR0, fR0, qR1, fR1, qR2, fR2, qR3, fR3, qR4, fR4⟩ := M.f5 4 rfl
  obtain ⟨tX, qX0, fX0, qX1, fX1, qX2, fX2, qX3, fX3, qX4, fX4⟩ := M.f5 5 rfl
  obtain ⟨tP, qP0, fP0, qP1, fP1, qP2, fP2, qP3, fP3, qP4, fP4⟩ := M.f5 6 rfl
  go_wp2_with fail
  replace M : Sep [] w W4 [rT ts.length C0 e0 ts, .blk (W3.heap.size) 34 #[.slice C0 ts.length e0, .slice C1 ks.length e1, .slice C2 fs.length e2, .int .i64 tn, .bool st], rK ks.length C1 e1 ks, rF fs.length C2 e2 fs, .blk (w.heap.size + 2) 34 #[.slice none 0 0, .slice none 0 0, .slice none 0 0, .int .i64 0, .bool false], .blk (w.heap.size + 1) 34 #[.slice A0 ts.length c0, .slice A1 ks.length c1, .slice A2 fs.length c2, .int .i64 tn, .bool st], .blk (w.heap.size) 28 #[.int .i64 a, .int .i64 b, .int .i64 c, .int .i64 d, .int .i64 e]] := M.front 1 rfl
  replace M : Sep [] w W4 [.blk (W3.heap.size) 34 #[.slice C0 ts.length e0, .slice C1 ks.length e1, .slice C2 fs.length e2, .int .i64 tn, .bool st], rT ts.length C0 e0 ts, rK ks.length C1 e1 ks, rF fs.length C2 e2 fs, .blk (w.heap.size + 2) 34 #[.slice none 0 0, .slice none 0 0, .slice none 0 0, .int .i64 0, .bool false], .blk (w.heap.size + 1) 34 #[.slice A0 ts.length c0, .slice A1 ks.length c1, .slice A2 fs.length c2, .int .i64 tn, .bool st], .blk (w.heap.size) 28 #[.int .i64 a, .int .i64 b, .int .i64 c, .int .i64 d, .int .i64 e]] := M.front 1 rfl
  go_call (wake_yes ts C0 C1 C2 e0 ks.length e1 fs.length e2 tn st _ k v0 s l o1 wt on v t _ ht (by omega) HY.out.2.1 (Sep.same (ps := [.blk (W3.heap.size) 34 #[.slice C0 ts.length e0, .slice C1 ks.length e1, .slice C2 fs.length e2, .int .i64 tn, .bool st], rT ts.length C0 e0 ts]) (rs := [rK ks.length C1 e1 ks, rF fs.length C2 e2 fs, .blk (w.heap.size + 2) 34 #[.slice none 0 0, .slice none 0 0, .slice none 0 0, .int .i64 0, .bool false], .blk (w.heap.size + 1) 34 #[.slice A0 ts.length c0, .slice A1 ks.length c1, .slice A2 fs.length c2, .int .i64 tn, .bool st], .blk (w.heap.size) 28 #[.int .i64 a, .int .i64 b, .int .i64 c, .int .i64 d, .int .i64 e]]) M (Below.refl _ _)) HY.out.2.2.1) as r W5 ⟨rfl, g1⟩
  clear tY qY0 fY0 qY1 fY1 qY2 fY2 qY3 fY3 qY4 fY4 tR qR0 fR0 qR1 fR1 qR2 fR2 qR3 fR3 qR4 fR4 tX qX0 fX0 qX1 fX1 qX2 fX2 qX3 fX3 qX4 fX4 tP qP0 fP0 qP1 fP1 qP2 fP2 qP3 fP3 qP4 fP4
  replace M : Sep [] w W5 [.blk (W3.heap.size) 34 #[.slice C0 ts.length e0, .slice C1 ks.length e1, .slice C2 fs.length e2, .int .i64 (tn + 1), .bool st], rT ts.length C0 e0 (ts.set k (wakeT ⟨s, l, o1, wt, on, v, t⟩ tn v0)), rK ks.length C1 e1 ks, rF fs.length C2 e2 fs, .blk (w.heap.size + 2) 34 #[.slice none 0 0, .slice none 0 0, .slice none 0 0, .int .i64 0, .bool false], .blk (w.heap.size + 1) 34 #[.slice A0 ts.length c0, .slice A1 ks.length c1, .slice A2 fs.length c2, .int .i64 tn, .bool st], .blk (w.heap.size) 28 #[.int .i64 a, .int .i64 b, .int .i64 c, .int .i64 d, .int .i64 e]] := Sep.comp (ps := [.blk (W3.heap.size) 34 #[.slice C0 ts.length e0, .slice C1 ks.length e1, .slice C2 fs.length e2, .int .i64 tn, .bool st], rT ts.length C0 e0 ts]) (rs := [rK ks.length C1 e1 ks, rF fs.length C2 e2 fs, .blk (w.heap.size + 2) 34 #[.slice none 0 0, .slice none 0 0, .slice none 0 0, .int .i64 0, .bool false], .blk (w.heap.size + 1) 34 #[.slice A0 ts.length c0, .slice A1 ks.length c1, .slice A2 fs.length c2, .int .i64 tn, .bool st], .blk (w.heap.size) 28 #[.int .i64 a, .int .i64 b, .int .i64 c, .int .i64 d, .int .i64 e]]) M g1
  clear g1
  obtain ⟨tY, qY0, fY0, qY1, fY1, qY2, fY2, qY3, fY3, qY4, fY4⟩ := M.f5 0 rfl
  obtain ⟨tR, qR0, fR0, qR1, fR1, qR2, fR2, qR3, fR3, qR4, fR4⟩ := M.f5 4 rfl
  obtain ⟨tX, qX0, fX0, qX1, fX1, qX2, fX2, qX3, fX3, qX4, fX4⟩ := M.f5 5 rfl
  obtain ⟨tP, qP0, fP0, qP1, fP1, qP2, fP2, qP3, fP3, qP4, fP4⟩ := M.f5 6 rfl
  go_wp2_with fail
  clear tY qY0 fY0 qY1 fY1 qY2 fY2 qY3 fY3 qY4 fY4 tR qR0 fR0 qR1 fR1 qR2 fR2 qR3 fR3 qR4 fR4 tX qX0 fX0 qX1 fX1 qX2 fX2 qX3 fX3 qX4 fX4 tP qP0 fP0 qP1 fP1 qP2 fP2 qP3 fP3 qP4 fP4
  replace M : Sep [] w (((((W5.setCell ⟨w.heap.size + 2, 0, none⟩ (.slice C0 ts.length e0)).setCell ⟨w.heap.size + 2, 1, none⟩ (.slice C1 ks.length e1)).setCell ⟨w.heap.size + 2, 2, none⟩ (.slice C2 fs.length e2)).setCell ⟨w.heap.size + 2, 3, none⟩ (.int .i64 (tn + 1))).setCell ⟨w.heap.size + 2, 4, none⟩ (.bool st)) [.blk (W3.heap.size) 34 #[.slice C0 ts.length e0, .slice C1 ks.length e1, .slice C2 fs.length e2, .int .i64 (tn + 1), .bool st], rT ts.length C0 e0 (ts.set k (wakeT ⟨s, l, o1, wt, on, v, t⟩ tn v0)), rK ks.length C1 e1 ks, rF fs.length C2 e2 fs, .blk (w.heap.size + 2) 34 #[.slice C0 ts.length e0, .slice C1 ks.length e1, .slice C2 fs.length e2, .int .i64 (tn + 1), .bool st], .blk (w.heap.size + 1) 34 #[.slice A0 ts.length c0, .slice A1 ks.length c1, .slice A2 fs.length c2, .int .i64 tn, .bool st], .blk (w.heap.size) 28 #[.int .i64 a, .int .i64 b, .int .i64 c, .int .i64 d, .int .i64 e]] := M.set5 4 rfl (.slice C0 ts.length e0) (.slice C1 ks.length e1) (.slice C2 fs.length e2) (.int .i64 (tn + 1)) (.bool st)
  generalize ((((W5.setCell ⟨w.heap.size + 2, 0, none⟩ (.slice C0 ts.length e0)).setCell ⟨w.heap.size + 2, 1, none⟩ (.slice C1 ks.length e1)).setCell ⟨w.heap.size + 2, 2, none⟩ (.slice C2 fs.length e2)).setCell ⟨w.heap.size + 2, 3, none⟩ (.int .i64 (tn + 1))).setCell ⟨w.heap.size + 2, 4, none⟩ (.bool st) = W6 at M ⊢
  obtain ⟨tR, qR0, qR1, qR2, qR3, qR4⟩ := M.q5 4 rfl
  exact bodyPost_ret (v := .tuple #[.agg #[.slice C0 ts.length e0, .slice C1 ks.length e1, .slice C2 fs.length e2, .int .i64 (tn + 1), .bool st], .bool true]) (by simp [results, Try.results41, go_sem, qR0, qR1, qR2, qR3, qR4]) rfl (by have hl : ((ts.set k (wakeT ⟨s, l, o1, wt, on, v, t⟩ tn v0))).length = ts.length := (by simp); unfold GaveP; rw [hl]; exact ⟨C0, C1, C2, e0, e1, e2, rfl, M.tail.take 3⟩)

set_option maxRecDepth 100000 in
set_option maxHeartbeats 2000000 in
theorem gParkedBy_bad (a b c d e : Int) (ts : List T7) (ks : List Int) (fs : List F2) (A0 A1 A2 : Option Addr) (c0 c1 c2 : Nat) (tn : Int) (st : Bool) (id : Int) (pw : Int) (po : Int) (w : World) (ht : ts.length ≤ 1048576) (hk : ks.length ≤ 1048576) (hf : fs.length ≤ 1048576) (h : InPool w ts ks fs A0 A1 A2) (hp : poolB a b c d e ts ks fs tn = false) :
    Calls Try.prog 46 #[.agg #[.int .i64 a, .int .i64 b, .int .i64 c, .int .i64 d, .int .i64 e], .agg #[.slice A0 ts.length c0, .slice A1 ks.length c1, .slice A2 fs.length c2, .int .i64 tn, .bool st], .int .i64 id, .int .i64 pw, .int .i64 po] w (GaveP [] [] [] 0 false false w) := by
  have HY := hide (⟨hp, trivial⟩ : _ ∧ True)
  clear hp
  have H := hide h
  clear h
  go_enter Try.func46, Try.ntmps46
  go_wp2_with fail
  have M : Sep [] w (((w.alloc (.cells #[.int .i64 a, .int .i64 b, .int .i64 c, .int .i64 d, .int .i64 e] 28)).alloc (.cells #[.slice A0 ts.length c0, .slice A1 ks.length c1, .slice A2 fs.length c2, .int .i64 tn, .bool st] 34)).alloc (.cells #[.slice none 0 0, .slice none 0 0, .slice none 0 0, .int .i64 0, .bool false] 34)) [.blk (w.heap.size + 2) 34 #[.slice none 0 0, .slice none 0 0, .slice none 0 0, .int .i64 0, .bool false], .blk (w.heap.size + 1) 34 #[.slice A0 ts.length c0, .slice A1 ks.length c1, .slice A2 fs.length c2, .int .i64 tn, .bool st], .blk (w.heap.size) 28 #[.int .i64 a, .int .i64 b, .int .i64 c, .int .i64 d, .int .i64 e]] := Sep.enter3 w
  generalize ((w.alloc (.cells #[.int .i64 a, .int .i64 b, .int .i64 c, .int .i64 d, .int .i64 e] 28)).alloc (.cells #[.slice A0 ts.length c0, .slice A1 ks.length c1, .slice A2 fs.length c2, .int .i64 tn, .bool st] 34)).alloc (.cells #[.slice none 0 0, .slice none 0 0, .slice none 0 0, .int .i64 0, .bool false] 34) = W1 at M ⊢
  obtain ⟨tR, qR0, fR0, qR1, fR1, qR2, fR2, qR3, fR3, qR4, fR4⟩ := M.f5 0 rfl
  obtain ⟨tX, qX0, fX0, qX1, fX1, qX2, fX2, qX3, fX3, qX4, fX4⟩ := M.f5 1 rfl
  obtain ⟨tP, qP0, fP0, qP1, fP1, qP2, fP2, qP3, fP3, qP4, fP4⟩ := M.f5 2 rfl
  go_wp2_with fail
  go_call (pright_v a b c d e ts ks fs A0 A1 A2 c0 c1 c2 tn st _ false HY.out.1 _ hk hf (M.blk 1 rfl) (H.out.below M.below)) as r W2 ⟨rfl, g1⟩
  clear tR qR0 fR0 qR1 fR1 qR2 fR2 qR3 fR3 qR4 fR4 tX qX0 fX0 qX1 fX1 qX2 fX2 qX3 fX3 qX4 fX4 tP qP0 fP0 qP1 fP1 qP2 fP2 qP3 fP3 qP4 fP4
  replace M := M.call g1
  clear g1
  obtain ⟨tR, qR0, fR0, qR1, fR1, qR2, fR2, qR3, fR3, qR4, fR4⟩ := M.f5 0 rfl
  obtain ⟨tX, qX0, fX0, qX1, fX1, qX2, fX2, qX3, fX3, qX4, fX4⟩ := M.f5 1 rfl
  obtain ⟨tP, qP0, fP0, qP1, fP1, qP2, fP2, qP3, fP3, qP4, fP4⟩ := M.f5 2 rfl
  go_wp2_with fail
  clear tR qR0 fR0 qR1 fR1 qR2 fR2 qR3 fR3 qR4 fR4 tX qX0 fX0 qX1 fX1 qX2 fX2 qX3 fX3 qX4 fX4 tP qP0 fP0 qP1 fP1 qP2 fP2 qP3 fP3 qP4 fP4
  replace M : Sep [] w (((((W2.setCell ⟨w.heap.size + 2, 0, none⟩ (.slice none 0 0)).setCell ⟨w.heap.size + 2, 1, none⟩ (.slice none 0 0)).setCell ⟨w.heap.size + 2, 2, none⟩ (.slice none 0 0)).setCell ⟨w.heap.size + 2, 3, none⟩ (.int .i64 0)).setCell ⟨w.heap.size + 2, 4, none⟩ (.bool false)) [.blk (w.heap.size + 2) 34 #[.slice none 0 0, .slice none 0 0, .slice none 0 0, .int .i64 0, .bool false], .blk (w.heap.size + 1) 34 #[.slice A0 ts.length c0, .slice A1 ks.length c1, .slice A2 fs.length c2, .int .i64 tn, .bool st], .blk (w.heap.size) 28 #[.int .i64 a, .int .i64 b, .int .i64 c, .int .i64 d, .int .i64 e]] := M.set5 0 rfl (.slice none 0 0) (.slice none 0 0) (.slice none 0 0) (.int .i64 0) (.bool false)
  generalize ((((W2.setCell ⟨w.heap.size + 2, 0, none⟩ (.slice none 0 0)).setCell ⟨w.heap.size + 2, 1, none⟩ (.slice none 0 0)).setCell ⟨w.heap.size + 2, 2, none⟩ (.slice none 0 0)).setCell ⟨w.heap.size + 2, 3, none⟩ (.int .i64 0)).setCell ⟨w.heap.size + 2, 4, none⟩ (.bool false) = W3 at M ⊢
  obtain ⟨tR, qR0, qR1, qR2, qR3, qR4⟩ := M.q5 0 rfl
  exact bodyPost_ret (v := .tuple #[.agg #[.slice none 0 0, .slice none 0 0, .slice none 0 0, .int .i64 0, .bool false], .bool false]) (by simp [results, Try.results46, go_sem, qR0, qR1, qR2, qR3, qR4]) rfl ⟨none, none, none, 0, 0, 0, rfl, sep_zero M.below⟩

set_option maxRecDepth 100000 in
set_option maxHeartbeats 2000000 in
theorem gParkedBy_no (a b c d e : Int) (ts : List T7) (ks : List Int) (fs : List F2) (A0 A1 A2 : Option Addr) (c0 c1 c2 : Nat) (tn : Int) (st : Bool) (id : Int) (pw : Int) (po : Int) (w : World) (ht : ts.length ≤ 1048576) (hk : ks.length ≤ 1048576) (hf : fs.length ≤ 1048576) (h : InPool w ts ks fs A0 A1 A2) (hp : poolB a b c d e ts ks fs tn = true) (hc : isInB ts id 2 = false) :
    Calls Try.prog 46 #[.agg #[.int .i64 a, .int .i64 b, .int .i64 c, .int .i64 d, .int .i64 e], .agg #[.slice A0 ts.length c0, .slice A1 ks.length c1, .slice A2 fs.length c2, .int .i64 tn, .bool st], .int .i64 id, .int .i64 pw, .int .i64 po] w (GaveP ts ks fs tn st false w) := by
  have HY := hide (⟨hp, hc, trivial⟩ : _ ∧ _ ∧ True)
  clear hp hc
  have H := hide h
  clear h
  go_enter Try.func46, Try.ntmps46
  go_wp2_with fail
  have M : Sep [] w (((w.alloc (.cells #[.int .i64 a, .int .i64 b, .int .i64 c, .int .i64 d, .int .i64 e] 28)).alloc (.cells #[.slice A0 ts.length c0, .slice A1 ks.length c1, .slice A2 fs.length c2, .int .i64 tn, .bool st] 34)).alloc (.cells #[.slice none 0 0, .slice none 0 0, .slice none 0 0, .int .i64 0, .bool false] 34)) [.blk (w.heap.size + 2) 34 #[.slice none 0 0, .slice none 0 0, .slice none 0 0, .int .i64 0, .bool false], .blk (w.heap.size + 1) 34 #[.slice A0 ts.length c0, .slice A1 ks.length c1, .slice A2 fs.length c2, .int .i64 tn, .bool st], .blk (w.heap.size) 28 #[.int .i64 a, .int .i64 b, .int .i64 c, .int .i64 d, .int .i64 e]] := Sep.enter3 w
  generalize ((w.alloc (.cells #[.int .i64 a, .int .i64 b, .int .i64 c, .int .i64 d, .int .i64 e] 28)).alloc (.cells #[.slice A0 ts.length c0, .slice A1 ks.length c1, .slice A2 fs.length c2, .int .i64 tn, .bool st] 34)).alloc (.cells #[.slice none 0 0, .slice none 0 0, .slice none 0 0, .int .i64 0, .bool false] 34) = W1 at M ⊢
  obtain ⟨tR, qR0, fR0, qR1, fR1, qR2, fR2, qR3, fR3, qR4, fR4⟩ := M.f5 0 rfl
  obtain ⟨tX, qX0, fX0, qX1, fX1, qX2, fX2, qX3, fX3, qX4, fX4⟩ := M.f5 1 rfl
  obtain ⟨tP, qP0, fP0, qP1, fP1, qP2, fP2, qP3, fP3, qP4, fP4⟩ := M.f5 2 rfl
  go_wp2_with fail
  go_call (pright_v a b c d e ts ks fs A0 A1 A2 c0 c1 c2 tn st _ true HY.out.1 _ hk hf (M.blk 1 rfl) (H.out.below M.below)) as r W2 ⟨rfl, g1⟩
  clear tR qR0 fR0 qR1 fR1 qR2 fR2 qR3 fR3 qR4 fR4 tX qX0 fX0 qX1 fX1 qX2 fX2 qX3 fX3 qX4 fX4 tP qP0 fP0 qP1 fP1 qP2 fP2 qP3 fP3 qP4 fP4
  replace M := M.call g1
  clear g1
  obtain ⟨tR, qR0, fR0, qR1, fR1, qR2, fR2, qR3, fR3, qR4, fR4⟩ := M.f5 0 rfl
  obtain ⟨tX, qX0, fX0, qX1, fX1, qX2, fX2, qX3, fX3, qX4, fX4⟩ := M.f5 1 rfl
  obtain ⟨tP, qP0, fP0, qP1, fP1, qP2, fP2, qP3, fP3, qP4, fP4⟩ := M.f5 2 rfl
  go_wp2_with fail
  go_call (copied_s ts ks fs A0 A1 A2 c0 c1 c2 tn st _ _ ht hk hf (M.blk 1 rfl) (H.out.below M.below)) as r W3 ⟨C0, C1, C2, e0, e1, e2, rfl, g1⟩
  clear tR qR0 fR0 qR1 fR1 qR2 fR2 qR3 fR3 qR4 fR4 tX qX0 fX0 qX1 fX1 qX2 fX2 qX3 fX3 qX4 fX4 tP qP0 fP0 qP1 fP1 qP2 fP2 qP3 fP3 qP4 fP4
  replace M : Sep [] w W3 [rT ts.length C0 e0 ts, rK ks.length C1 e1 ks, rF fs.length C2 e2 fs, .blk (w.heap.size + 2) 34 #[.slice none 0 0, .slice none 0 0, .slice none 0 0, .int .i64 0, .bool false], .blk (w.heap.size + 1) 34 #[.slice A0 ts.length c0, .slice A1 ks.length c1, .slice A2 fs.length c2, .int .i64 tn, .bool st], .blk (w.heap.size) 28 #[.int .i64 a, .int .i64 b, .int .i64 c, .int .i64 d, .int .i64 e]] := Sep.comp (ps := []) (rs := [.blk (w.heap.size + 2) 34 #[.slice none 0 0, .slice none 0 0, .slice none 0 0, .int .i64 0, .bool false], .blk (w.heap.size + 1) 34 #[.slice A0 ts.length c0, .slice A1 ks.length c1, .slice A2 fs.length c2, .int .i64 tn, .bool st], .blk (w.heap.size) 28 #[.int .i64 a, .int .i64 b, .int .i64 c, .int .i64 d, .int .i64 e]]) M g1
  clear g1
  obtain ⟨tR, qR0, fR0, qR1, fR1, qR2, fR2, qR3, fR3, qR4, fR4⟩ := M.f5 3 rfl
  obtain ⟨tX, qX0, fX0, qX1, fX1, qX2, fX2, qX3, fX3, qX4, fX4⟩ := M.f5 4 rfl
  obtain ⟨tP, qP0, fP0, qP1, fP1, qP2, fP2, qP3, fP3, qP4, fP4⟩ := M.f5 5 rfl
  go_wp2_with fail
  clear tR qR0 fR0 qR1 fR1 qR2 fR2 qR3 fR3 qR4 fR4 tX qX0 fX0 qX1 fX1 qX2 fX2 qX3 fX3 qX4 fX4 tP qP0 fP0 qP1 fP1 qP2 fP2 qP3 fP3 qP4 fP4
  replace M : Sep [] w (W3.alloc (.cells #[.slice C0 ts.length e0, .slice C1 ks.length e1, .slice C2 fs.length e2, .int .i64 tn, .bool st] 34)) [.blk (W3.heap.size) 34 #[.slice C0 ts.length e0, .slice C1 ks.length e1, .slice C2 fs.length e2, .int .i64 tn, .bool st], rT ts.length C0 e0 ts, rK ks.length C1 e1 ks, rF fs.length C2 e2 fs, .blk (w.heap.size + 2) 34 #[.slice none 0 0, .slice none 0 0, .slice none 0 0, .int .i64 0, .bool false], .blk (w.heap.size + 1) 34 #[.slice A0 ts.length c0, .slice A1 ks.length c1, .slice A2 fs.length c2, .int .i64 tn, .bool st], .blk (w.heap.size) 28 #[.int .i64 a, .int .i64 b, .int .i64 c, .int .i64 d, .int .i64 e]] := M.allocN 34 #[.slice C0 ts.length e0, .slice C1 ks.length e1, .slice C2 fs.length e2, .int .i64 tn, .bool st]
  generalize W3.alloc (.cells #[.slice C0 ts.length e0, .slice C1 ks.length e1, .slice C2 fs.length e2, .int .i64 tn, .bool st] 34) = W4 at M ⊢
  obtain ⟨tY, qY0, fY0, qY1, fY1, qY2, fY2, qY3, fY3, qY4, fY4⟩ := M.f5 0 rfl
  obtain ⟨tR, qR0, fR0, qR1, fR1, qR2, fR2, qR3, fR3, qR4, fR4⟩ := M.f5 4 rfl
  obtain ⟨tX, qX0, fX0, qX1, fX1, qX2, fX2, qX3, fX3, qX4, fX4⟩ := M.f5 5 rfl
  obtain ⟨tP, qP0, fP0, qP1, fP1, qP2, fP2, qP3, fP3, qP4, fP4⟩ := M.f5 6 rfl
  go_wp2_with fail
  go_call (park_no a b c d e ts C0 C1 C2 e0 ks.length e1 fs.length e2 tn st _ id pw po _ ht (M.blk 0 rfl) (M.rowS 1 rfl) HY.out.2.1) as r W5 ⟨rfl, g1⟩
  clear tY qY0 fY0 qY1 fY1 qY2 fY2 qY3 fY3 qY4 fY4 tR qR0 fR0 qR1 fR1 qR2 fR2 qR3 fR3 qR4 fR4 tX qX0 fX0 qX1 fX1 qX2 fX2 qX3 fX3 qX4 fX4 tP qP0 fP0 qP1 fP1 qP2 fP2 qP3 fP3 qP4 fP4
  replace M := M.call g1
  clear g1
  obtain ⟨tY, qY0, fY0, qY1, fY1, qY2, fY2, qY3, fY3, qY4, fY4⟩ := M.f5 0 rfl
  obtain ⟨tR, qR0, fR0, qR1, fR1, qR2, fR2, qR3, fR3, qR4, fR4⟩ := M.f5 4 rfl
  obtain ⟨tX, qX0, fX0, qX1, fX1, qX2, fX2, qX3, fX3, qX4, fX4⟩ := M.f5 5 rfl
  obtain ⟨tP, qP0, fP0, qP1, fP1, qP2, fP2, qP3, fP3, qP4, fP4⟩ := M.f5 6 rfl
  go_wp2_with fail
  go_call (copied_s ts ks fs A0 A1 A2 c0 c1 c2 tn st _ _ ht hk hf (M.blk 5 rfl) (H.out.below M.below)) as r W6 ⟨D0, D1, D2, f0, f1, f2, rfl, g1⟩
  clear tY qY0 fY0 qY1 fY1 qY2 fY2 qY3 fY3 qY4 fY4 tR qR0 fR0 qR1 fR1 qR2 fR2 qR3 fR3 qR4 fR4 tX qX0 fX0 qX1 fX1 qX2 fX2 qX3 fX3 qX4 fX4 tP qP0 fP0 qP1 fP1 qP2 fP2 qP3 fP3 qP4 fP4
  replace M : Sep [] w W6 [rT ts.length D0 f0 ts, rK ks.length D1 f1 ks, rF fs.length D2 f2 fs, .blk (W3.heap.size) 34 #[.slice C0 ts.length e0, .slice C1 ks.length e1, .slice C2 fs.length e2, .int .i64 tn, .bool st], rT ts.length C0 e0 ts, rK ks.length C1 e1 ks, rF fs.length C2 e2 fs, .blk (w.heap.size + 2) 34 #[.slice none 0 0, .slice none 0 0, .slice none 0 0, .int .i64 0, .bool false], .blk (w.heap.size + 1) 34 #[.slice A0 ts.length c0, .slice A1 ks.length c1, .slice A2 fs.length c2, .int .i64 tn, .bool st], .blk (w.heap.size) 28 #[.int .i64 a, .int .i64 b, .int .i64 c, .int .i64 d, .int .i64 e]] := Sep.comp (ps := []) (rs := [.blk (W3.heap.size) 34 #[.slice C0 ts.length e0, .slice C1 ks.length e1, .slice C2 fs.length e2, .int .i64 tn, .bool st], rT ts.length C0 e0 ts, rK ks.length C1 e1 ks, rF fs.length C2 e2 fs, .blk (w.heap.size + 2) 34 #[.slice none 0 0, .slice none 0 0, .slice none 0 0, .int .i64 0, .bool false], .blk (w.heap.size + 1) 34 #[.slice A0 ts.length c0, .slice A1 ks.length c1, .slice A2 fs.length c2, .int .i64 tn, .bool st], .blk (w.heap.size) 28 #[.int .i64 a, .int .i64 b, .int .i64 c, .int .i64 d, .int .i64 e]]) M g1
  clear g1
  obtain ⟨tY, qY0, fY0, qY1, fY1, qY2, fY2, qY3, fY3, qY4, fY4⟩ := M.f5 3 rfl
  obtain ⟨tR, qR0, fR0, qR1, fR1, qR2, fR2, qR3, fR3, qR4, fR4⟩ := M.f5 7 rfl
  obtain ⟨tX, qX0, fX0, qX1, fX1, qX2, fX2, qX3, fX3, qX4, fX4⟩ := M.f5 8 rfl
  obtain ⟨tP, qP0, fP0, qP1, fP1, qP2, fP2, qP3, fP3, qP4, fP4⟩ := M.f5 9 rfl
  go_wp2_with fail
  clear tY qY0 fY0 qY1 fY1 qY2 fY2 qY3 fY3 qY4 fY4 tR qR0 fR0 qR1 fR1 qR2 fR2 qR3 fR3 qR4 fR4 tX qX0 fX0 qX1 fX1 qX2 fX2 qX3 fX3 qX4 fX4 tP qP0 fP0 qP1 fP1 qP2 fP2 qP3 fP3 qP4 fP4
  replace M : Sep [] w (((((W6.setCell ⟨w.heap.size + 2, 0, none⟩ (.slice D0 ts.length f0)).setCell ⟨w.heap.size + 2, 1, none⟩ (.slice D1 ks.length f1)).setCell ⟨w.heap.size + 2, 2, none⟩ (.slice D2 fs.length f2)).setCell ⟨w.heap.size + 2, 3, none⟩ (.int .i64 tn)).setCell ⟨w.heap.size + 2, 4, none⟩ (.bool st)) [rT ts.length D0 f0 ts, rK ks.length D1 f1 ks, rF fs.length D2 f2 fs, .blk (W3.heap.size) 34 #[.slice C0 ts.length e0, .slice C1 ks.length e1, .slice C2 fs.length e2, .int .i64 tn, .bool st], rT ts.length C0 e0 ts, rK ks.length C1 e1 ks, rF fs.length C2 e2 fs, .blk (w.heap.size + 2) 34 #[.slice D0 ts.length f0, .slice D1 ks.length f1, .slice D2 fs.length f2, .int .i64 tn, .bool st], .blk (w.heap.size + 1) 34 #[.slice A0 ts.length c0, .slice A1 ks.length c1, .slice A2 fs.length c2, .int .i64 tn, .bool st], .blk (w.heap.size) 28 #[.int .i64 a, .int .i64 b, .int .i64 c, .int .i64 d, .int .i64 e]] := M.set5 7 rfl (.slice D0 ts.length f0) (.slice D1 ks.length f1) (.slice D2 fs.length f2) (.int .i64 tn) (.bool st)
  generalize ((((W6.setCell ⟨w.heap.size + 2, 0, none⟩ (.slice D0 ts.length f0)).setCell ⟨w.heap.size + 2, 1, none⟩ (.slice D1 ks.length f1)).setCell ⟨w.heap.size + 2, 2, none⟩ (.slice D2 fs.length f2)).setCell ⟨w.heap.size + 2, 3, none⟩ (.int .i64 tn)).setCell ⟨w.heap.size + 2, 4, none⟩ (.bool st) = W7 at M ⊢
  obtain ⟨tR, qR0, qR1, qR2, qR3, qR4⟩ := M.q5 7 rfl
  exact bodyPost_ret (v := .tuple #[.agg #[.slice D0 ts.length f0, .slice D1 ks.length f1, .slice D2 fs.length f2, .int .i64 tn, .bool st], .bool false]) (by simp [results, Try.results46, go_sem, qR0, qR1, qR2, qR3, qR4]) rfl ⟨D0, D1, D2, f0, f1, f2, rfl, M.take 3⟩

set_option maxRecDepth 100000 in
set_option maxHeartbeats 2000000 in
theorem gParkedBy_yes (a b c d e : Int) (ts : List T7) (ks : List Int) (fs : List F2) (A0 A1 A2 : Option Addr) (c0 c1 c2 : Nat) (tn : Int) (st : Bool) (id : Int) (pw : Int) (po : Int) (w : World) (ht : ts.length ≤ 1048576) (hk : ks.length ≤ 1048576) (hf : fs.length ≤ 1048576) (h : InPool w ts ks fs A0 A1 A2) (hp : poolB a b c d e ts ks fs tn = true) (k : Nat) (s l o1 wt on v t : Int) (hid : id = k) (hts : ts[k]? = some ⟨s, l, o1, wt, on, v, t⟩) (hc : isInB ts k 2 = true) (hz : poolB a b c d e (ts.set k (parkT ⟨s, l, o1, wt, on, v, t⟩ tn pw po)) ks fs (tn + 1) = true) :
    Calls Try.prog 46 #[.agg #[.int .i64 a, .int .i64 b, .int .i64 c, .int .i64 d, .int .i64 e], .agg #[.slice A0 ts.length c0, .slice A1 ks.length c1, .slice A2 fs.length c2, .int .i64 tn, .bool st], .int .i64 id, .int .i64 pw, .int .i64 po] w (GaveP (ts.set k (parkT ⟨s, l, o1, wt, on, v, t⟩ tn pw po)) ks fs (tn + 1) st true w) := by
  have hkl : k < ts.length := by
    rcases Nat.lt_or_ge k ts.length with h1 | h1
    · exact h1
    · rw [List.getElem?_eq_none h1] at hts; cases hts
  have tb : 0 ≤ tn ∧ tn ≤ 1000000 := by
    have h1 := hp
    simp only [poolB, Bool.and_eq_true] at h1
    have h2 := h1.2.1
    simp [btw] at h2
    exact h2
  obtain ⟨tb0, tb1⟩ := tb
  subst hid
  have H := hide h
  clear h
  have HY := hide (⟨hp, hts, hc, hz, trivial⟩ : _ ∧ _ ∧ _ ∧ _ ∧ True)
  clear hp hts hc hz
  go_enter Try.func46, Try.ntmps46
  go_wp2_with fail
  have M : Sep [] w (((w.alloc (.cells #[.int .i64 a, .int .i64 b, .int .i64 c, .int .i64 d, .int .i64 e] 28)).alloc (.cells #[.slice A0 ts.length c0, .slice A1 ks.length c1, .slice A2 fs.length c2, .int .i64 tn, .bool st] 34)).alloc (.cells #[.slice none 0 0, .slice none 0 0, .slice none 0 0, .int .i64 0, .bool false] 34)) [.blk (w.heap.size + 2) 34 #[.slice none 0 0, .slice none 0 0, .slice none 0 0, .int .i64 0, .bool false], .blk (w.heap.size + 1) 34 #[.slice A0 ts.length c0, .slice A1 ks.length c1, .slice A2 fs.length c2, .int .i64 tn, .bool st], .blk (w.heap.size) 28 #[.int .i64 a, .int .i64 b, .int .i64 c, .int .i64 d, .int .i64 e]] := Sep.enter3 w
  generalize ((w.alloc (.cells #[.int .i64 a, .int .i64 b, .int .i64 c, .int .i64 d, .int .i64 e] 28)).alloc (.cells #[.slice A0 ts.length c0, .slice A1 ks.length c1, .slice A2 fs.length c2, .int .i64 tn, .bool st] 34)).alloc (.cells #[.slice none 0 0, .slice none 0 0, .slice none 0 0, .int .i64 0, .bool false] 34) = W1 at M ⊢
  obtain ⟨tR, qR0, fR0, qR1, fR1, qR2, fR2, qR3, fR3, qR4, fR4⟩ := M.f5 0 rfl
  obtain ⟨tX, qX0, fX0, qX1, fX1, qX2, fX2, qX3, fX3, qX4, fX4⟩ := M.f5 1 rfl
  obtain ⟨tP, qP0, fP0, qP1, fP1, qP2, fP2, qP3, fP3, qP4, fP4⟩ := M.f5 2 rfl
  go_wp2_with fail
  go_call (pright_v a b c d e ts ks fs A0 A1 A2 c0 c1 c2 tn st _ true HY.out.1 _ hk hf (M.blk 1 rfl) (H.out.below M.below)) as r W2 ⟨rfl, g1⟩
  clear tR qR0 fR0 qR1 fR1 qR2 fR2 qR3 fR3 qR4 fR4 tX qX0 fX0 qX1 fX1 qX2 fX2 qX3 fX3 qX4 fX4 tP qP0 fP0 qP1 fP1 qP2 fP2 qP3 fP3 qP4 fP4
  replace M := M.call g1
  clear g1
  obtain ⟨tR, qR0, fR0, qR1, fR1, qR2, fR2, qR3, fR3, qR4, fR4⟩ := M.f5 0 rfl
  obtain ⟨tX, qX0, fX0, qX1, fX1, qX2, fX2, qX3, fX3, qX4, fX4⟩ := M.f5 1 rfl
  obtain ⟨tP, qP0, fP0, qP1, fP1, qP2, fP2, qP3, fP3, qP4, fP4⟩ := M.f5 2 rfl
  go_wp2_with fail
  go_call (copied_s ts ks fs A0 A1 A2 c0 c1 c2 tn st _ _ ht hk hf (M.blk 1 rfl) (H.out.below M.below)) as r W3 ⟨C0, C1, C2, e0, e1, e2, rfl, g1⟩
  clear tR qR0 fR0 qR1 fR1 qR2 fR2 qR3 fR3 qR4 fR4 tX qX0 fX0 qX1 fX1 qX2 fX2 qX3 fX3 qX4 fX4 tP qP0 fP0 qP1 fP1 qP2 fP2 qP3 fP3 qP4 fP4
  replace M : Sep [] w W3 [rT ts.length C0 e0 ts, rK ks.length C1 e1 ks, rF fs.length C2 e2 fs, .blk (w.heap.size + 2) 34 #[.slice none 0 0, .slice none 0 0, .slice none 0 0, .int .i64 0, .bool false], .blk (w.heap.size + 1) 34 #[.slice A0 ts.length c0, .slice A1 ks.length c1, .slice A2 fs.length c2, .int .i64 tn, .bool st], .blk (w.heap.size) 28 #[.int .i64 a, .int .i64 b, .int .i64 c, .int .i64 d, .int .i64 e]] := Sep.comp (ps := []) (rs := [.blk (w.heap.size + 2) 34 #[.slice none 0 0, .slice none 0 0, .slice none 0 0, .int .i64 0, .bool false], .blk (w.heap.size + 1) 34 #[.slice A0 ts.length c0, .slice A1 ks.length c1, .slice A2 fs.length c2, .int .i64 tn, .bool st], .blk (w.heap.size) 28 #[.int .i64 a, .int .i64 b, .int .i64 c, .int .i64 d, .int .i64 e]]) M g1
  clear g1
  obtain ⟨tR, qR0, fR0, qR1, fR1, qR2, fR2, qR3, fR3, qR4, fR4⟩ := M.f5 3 rfl
  obtain ⟨tX, qX0, fX0, qX1, fX1, qX2, fX2, qX3, fX3, qX4, fX4⟩ := M.f5 4 rfl
  obtain ⟨tP, qP0, fP0, qP1, fP1, qP2, fP2, qP3, fP3, qP4, fP4⟩ := M.f5 5 rfl
  go_wp2_with fail
  clear tR qR0 fR0 qR1 fR1 qR2 fR2 qR3 fR3 qR4 fR4 tX qX0 fX0 qX1 fX1 qX2 fX2 qX3 fX3 qX4 fX4 tP qP0 fP0 qP1 fP1 qP2 fP2 qP3 fP3 qP4 fP4
  replace M : Sep [] w (W3.alloc (.cells #[.slice C0 ts.length e0, .slice C1 ks.length e1, .slice C2 fs.length e2, .int .i64 tn, .bool st] 34)) [.blk (W3.heap.size) 34 #[.slice C0 ts.length e0, .slice C1 ks.length e1, .slice C2 fs.length e2, .int .i64 tn, .bool st], rT ts.length C0 e0 ts, rK ks.length C1 e1 ks, rF fs.length C2 e2 fs, .blk (w.heap.size + 2) 34 #[.slice none 0 0, .slice none 0 0, .slice none 0 0, .int .i64 0, .bool false], .blk (w.heap.size + 1) 34 #[.slice A0 ts.length c0, .slice A1 ks.length c1, .slice A2 fs.length c2, .int .i64 tn, .bool st], .blk (w.heap.size) 28 #[.int .i64 a, .int .i64 b, .int .i64 c, .int .i64 d, .int .i64 e]] := M.allocN 34 #[.slice C0 ts.length e0, .slice C1 ks.length e1, .slice C2 fs.length e2, .int .i64 tn, .bool st]
  generalize W3.alloc (.cells #[.slice C0 ts.length e0, .slice C1 ks.length e1, .slice C2 fs.length e2, .int .i64 tn, .bool st] 34) = W4 at M ⊢
  obtain ⟨tY, qY0, fY0, qY1, fY1, qY2, fY2, qY3, fY3, qY4, fY4⟩ := M.f5 0 rfl
  obtain ⟨tR, qR0, fR0, qR1, fR1, qR2, fR2, qR3, fR3, qR4, fR4⟩ := M.f5 4 rfl
  obtain ⟨tX, qX0, fX0, qX1, fX1, qX2, fX2, qX3, fX3, qX4, fX4⟩ := M.f5 5 rfl
  obtain ⟨tP, qP0, fP0, qP1, fP1, qP2, fP2, qP3, fP3, qP4, fP4⟩ := M.f5 6 rfl
  go_wp2_with fail
  replace M : Sep [] w W4 [rF fs.length C2 e2 fs, .blk (W3.heap.size) 34 #[.slice C0 ts.length e0, .slice C1 ks.length e1, .slice C2 fs.length e2, .int .i64 tn, .bool st], rT ts.length C0 e0 ts, rK ks.length C1 e1 ks, .blk (w.heap.size + 2) 34 #[.slice none 0 0, .slice none 0 0, .slice none 0 0, .int .i64 0, .bool false], .blk (w.heap.size + 1) 34 #[.slice A0 ts.length c0, .slice A1 ks.length c1, .slice A2 fs.length c2, .int .i64 tn, .bool st], .blk (w.heap.size) 28 #[.int .i64 a, .int .i64 b, .int .i64 c, .int .i64 d, .int .i64 e]] := M.front 3 rfl
  replace M : Sep [] w W4 [rK ks.length C1 e1 ks, rF fs.length C2 e2 fs, .blk (W3.heap.size) 34 #[.slice C0 ts.length e0, .slice C1 ks.length e1, .slice C2 fs.length e2, .int .i64 tn, .bool st], rT ts.length C0 e0 ts, .blk (w.heap.size + 2) 34 #[.slice none 0 0, .slice none 0 0, .slice none 0 0, .int .i64 0, .bool false], .blk (w.heap.size + 1) 34 #[.slice A0 ts.length c0, .slice A1 ks.length c1, .slice A2 fs.length c2, .int .i64 tn, .bool st], .blk (w.heap.size) 28 #[.int .i64 a, .int .i64 b, .int .i64 c, .int .i64 d, .int .i64 e]] := M.front 3 rfl
  replace M : Sep [] w W4 [rT ts.length C0 e0 ts, rK ks.length C1 e1 ks, rF fs.length C2 e2 fs, .blk (W3.heap.size) 34 #[.slice C0 ts.length e0, .slice C1 ks.length e1, .slice C2 fs.length e2, .int .i64 tn, .bool st], .blk (w.heap.size + 2) 34 #[.slice none 0 0, .slice none 0 0, .slice none 0 0, .int .i64 0, .bool false], .blk (w.heap.size + 1) 34 #[.slice A0 ts.length c0, .slice A1 ks.length c1, .slice A2 fs.length c2, .int .i64 tn, .bool st], .blk (w.heap.size) 28 #[.int .i64 a, .int .i64 b, .int .i64 c, .int .i64 d, .int .i64 e]] := M.front 3 rfl
  replace M : Sep [] w W4 [.blk (W3.heap.size) 34 #[.slice C0 ts.length e0, .slice C1 ks.length e1, .slice C2 fs.length e2, .int .i64 tn, .bool st], rT ts.length C0 e0 ts, rK ks.length C1 e1 ks, rF fs.length C2 e2 fs, .blk (w.heap.size + 2) 34 #[.slice none 0 0, .slice none 0 0, .slice none 0 0, .int .i64 0, .bool false], .blk (w.heap.size + 1) 34 #[.slice A0 ts.length c0, .slice A1 ks.length c1, .slice A2 fs.length c2, .int .i64 tn, .bool st], .blk (w.heap.size) 28 #[.int .i64 a, .int .i64 b, .int .i64 c, .int .i64 d, .int .i64 e]] := M.front 3 rfl
  have hPk := park_yes a b c d e ts ks fs C0 C1 C2 e0 e1 e2 tn st _ k pw po s l o1 wt on v t _ ht hk hf (by omega) (by omega) HY.out.2.1 (Sep.same (ps := [.blk (W3.heap.size) 34 #[.slice C0 ts.length e0, .slice C1 ks.length e1, .slice C2 fs.length e2, .int .i64 tn, .bool st], rT ts.length C0 e0 ts, rK ks.length C1 e1 ks, rF fs.length C2 e2 fs]) (rs := [.blk (w.heap.size + 2) 34 #[.slice none 0 0, .slice none 0 0, .slice none 0 0, .int .i64 0, .bool false], .blk (w.heap.size + 1) 34 #[.slice A0 ts.length c0, .slice A1 ks.length c1, .slice A2 fs.length c2, .int .i64 tn, .bool st], .blk (w.heap.size) 28 #[.int .i64 a, .int .i64 b, .int .i64 c, .int .i64 d, .int .i64 e]]) M (Below.refl _ _)) HY.out.2.2.1
  rw [HY.out.2.2.2.1] at hPk
  refine Calls.mono (by with_reducible exact hPk) ?_
  clear hPk
  rintro r W5 ⟨rfl, g1⟩
  clear tY qY0 fY0 qY1 fY1 qY2 fY2 qY3 fY3 qY4 fY4 tR qR0 fR0 qR1 fR1 qR2 fR2 qR3 fR3 qR4 fR4 tX qX0 fX0 qX1 fX1 qX2 fX2 qX3 fX3 qX4 fX4 tP qP0 fP0 qP1 fP1 qP2 fP2 qP3 fP3 qP4 fP4
  replace M : Sep [] w W5 [.blk (W3.heap.size) 34 #[.slice C0 ts.length e0, .slice C1 ks.length e1, .slice C2 fs.length e2, .int .i64 (tn + 1), .bool st], rT ts.length C0 e0 (ts.set k (parkT ⟨s, l, o1, wt, on, v, t⟩ tn pw po)), rK ks.length C1 e1 ks, rF fs.length C2 e2 fs, .blk (w.heap.size + 2) 34 #[.slice none 0 0, .slice none 0 0, .slice none 0 0, .int .i64 0, .bool false], .blk (w.heap.size + 1) 34 #[.slice A0 ts.length c0, .slice A1 ks.length c1, .slice A2 fs.length c2, .int .i64 tn, .bool st], .blk (w.heap.size) 28 #[.int .i64 a, .int .i64 b, .int .i64 c, .int .i64 d, .int .i64 e]] := Sep.comp (ps := [.blk (W3.heap.size) 34 #[.slice C0 ts.length e0, .slice C1 ks.length e1, .slice C2 fs.length e2, .int .i64 tn, .bool st], rT ts.length C0 e0 ts, rK ks.length C1 e1 ks, rF fs.length C2 e2 fs]) (rs := [.blk (w.heap.size + 2) 34 #[.slice none 0 0, .slice none 0 0, .slice none 0 0, .int .i64 0, .bool false], .blk (w.heap.size + 1) 34 #[.slice A0 ts.length c0, .slice A1 ks.length c1, .slice A2 fs.length c2, .int .i64 tn, .bool st], .blk (w.heap.size) 28 #[.int .i64 a, .int .i64 b, .int .i64 c, .int .i64 d, .int .i64 e]]) M g1
  clear g1
  obtain ⟨tY, qY0, fY0, qY1, fY1, qY2, fY2, qY3, fY3, qY4, fY4⟩ := M.f5 0 rfl
  obtain ⟨tR, qR0, fR0, qR1, fR1, qR2, fR2, qR3, fR3, qR4, fR4⟩ := M.f5 4 rfl
  obtain ⟨tX, qX0, fX0, qX1, fX1, qX2, fX2, qX3, fX3, qX4, fX4⟩ := M.f5 5 rfl
  obtain ⟨tP, qP0, fP0, qP1, fP1, qP2, fP2, qP3, fP3, qP4, fP4⟩ := M.f5 6 rfl
  go_wp2_with fail
  clear tY qY0 fY0 qY1 fY1 qY2 fY2 qY3 fY3 qY4 fY4 tR qR0 fR0 qR1 fR1 qR2 fR2 qR3 fR3 qR4 fR4 tX qX0 fX0 qX1 fX1 qX2 fX2 qX3 fX3 qX4 fX4 tP qP0 fP0 qP1 fP1 qP2 fP2 qP3 fP3 qP4 fP4
  replace M : Sep [] w (((((W5.setCell ⟨w.heap.size + 2, 0, none⟩ (.slice C0 ts.length e0)).setCell ⟨w.heap.size + 2, 1, none⟩ (.slice C1 ks.length e1)).setCell ⟨w.heap.size + 2, 2, none⟩ (.slice C2 fs.length e2)).setCell ⟨w.heap.size + 2, 3, none⟩ (.int .i64 (tn + 1))).setCell ⟨w.heap.size + 2, 4, none⟩ (.bool st)) [.blk (W3.heap.size) 34 #[.slice C0 ts.length e0, .slice C1 ks.length e1, .slice C2 fs.length e2, .int .i64 (tn + 1), .bool st], rT ts.length C0 e0 (ts.set k (parkT ⟨s, l, o1, wt, on, v, t⟩ tn pw po)), rK ks.length C1 e1 ks, rF fs.length C2 e2 fs, .blk (w.heap.size + 2) 34 #[.slice C0 ts.length e0, .slice C1 ks.length e1, .slice C2 fs.length e2, .int .i64 (tn + 1), .bool st], .blk (w.heap.size + 1) 34 #[.slice A0 ts.length c0, .slice A1 ks.length c1, .slice A2 fs.length c2, .int .i64 tn, .bool st], .blk (w.heap.size) 28 #[.int .i64 a, .int .i64 b, .int .i64 c, .int .i64 d, .int .i64 e]] := M.set5 4 rfl (.slice C0 ts.length e0) (.slice C1 ks.length e1) (.slice C2 fs.length e2) (.int .i64 (tn + 1)) (.bool st)
  generalize ((((W5.setCell ⟨w.heap.size + 2, 0, none⟩ (.slice C0 ts.length e0)).setCell ⟨w.heap.size + 2, 1, none⟩ (.slice C1 ks.length e1)).setCell ⟨w.heap.size + 2, 2, none⟩ (.slice C2 fs.length e2)).setCell ⟨w.heap.size + 2, 3, none⟩ (.int .i64 (tn + 1))).setCell ⟨w.heap.size + 2, 4, none⟩ (.bool st) = W6 at M ⊢
  obtain ⟨tR, qR0, qR1, qR2, qR3, qR4⟩ := M.q5 4 rfl
  exact bodyPost_ret (v := .tuple #[.agg #[.slice C0 ts.length e0, .slice C1 ks.length e1, .slice C2 fs.length e2, .int .i64 (tn + 1), .bool st], .bool true]) (by simp [results, Try.results46, go_sem, qR0, qR1, qR2, qR3, qR4]) rfl (by have hl : ((ts.set k (parkT ⟨s, l, o1, wt, on, v, t⟩ tn pw po))).length = ts.length := (by simp); unfold GaveP; rw [hl]; exact ⟨C0, C1, C2, e0, e1, e2, rfl, M.tail.take 3⟩)

set_option maxRecDepth 100000 in
set_option maxHeartbeats 2000000 in
theorem gParkedBy_full (a b c d e : Int) (ts : List T7) (ks : List Int) (fs : List F2) (A0 A1 A2 : Option Addr) (c0 c1 c2 : Nat) (tn : Int) (st : Bool) (id : Int) (pw : Int) (po : Int) (w : World) (ht : ts.length ≤ 1048576) (hk : ks.length ≤ 1048576) (hf : fs.length ≤ 1048576) (h : InPool w ts ks fs A0 A1 A2) (hp : poolB a b c d e ts ks fs tn = true) (k : Nat) (s l o1 wt on v t : Int) (hid : id = k) (hts : ts[k]? = some ⟨s, l, o1, wt, on, v, t⟩) (hc : isInB ts k 2 = true) (hz : poolB a b c d e (ts.set k (parkT ⟨s, l, o1, wt, on, v, t⟩ tn pw po)) ks fs (tn + 1) = false) :
    Calls Try.prog 46 #[.agg #[.int .i64 a, .int .i64 b, .int .i64 c, .int .i64 d, .int .i64 e], .agg #[.slice A0 ts.length c0, .slice A1 ks.length c1, .slice A2 fs.length c2, .int .i64 tn, .bool st], .int .i64 id, .int .i64 pw, .int .i64 po] w (GaveP ts ks fs tn st false w) := by
  have hkl : k < ts.length := by
    rcases Nat.lt_or_ge k ts.length with h1 | h1
    · exact h1
    · rw [List.getElem?_eq_none h1] at hts; cases hts
  have tb : 0 ≤ tn ∧ tn ≤ 1000000 := by
    have h1 := hp
    simp only [poolB, Bool.and_eq_true] at h1
    have h2 := h1.2.1
    simp [btw] at h2
    exact h2
  obtain ⟨tb0, tb1⟩ := tb
  subst hid
  have H := hide h
  clear h
  have HY := hide (⟨hp, hts, hc, hz, trivial⟩ : _ ∧ _ ∧ _ ∧ _ ∧ True)
  clear hp hts hc hz
  go_enter Try.func46, Try.ntmps46
  go_wp2_with fail
  have M : Sep [] w (((w.alloc (.cells #[.int .i64 a, .int .i64 b, .int .i64 c, .int .i64 d, .int .i64 e] 28)).alloc (.cells #[.slice A0 ts.length c0, .slice A1 ks.length c1, .slice A2 fs.length c2, .int .i64 tn, .bool st] 34)).alloc (.cells #[.slice none 0 0, .slice none 0 0, .slice none 0 0, .int .i64 0, .bool false] 34)) [.blk (w.heap.size + 2) 34 #[.slice none 0 0, .slice none 0 0, .slice none 0 0, .int .i64 0, .bool false], .blk (w.heap.size + 1) 34 #[.slice A0 ts.length c0, .slice A1 ks.length c1, .slice A2 fs.length c2, .int .i64 tn, .bool st], .blk (w.heap.size) 28 #[.int .i64 a, .int .i64 b, .int .i64 c, .int .i64 d, .int .i64 e]] := Sep.enter3 w
  generalize ((w.alloc (.cells #[.int .i64 a, .int .i64 b, .int .i64 c, .int .i64 d, .int .i64 e] 28)).alloc (.cells #[.slice A0 ts.length c0, .slice A1 ks.length c1, .slice A2 fs.length c2, .int .i64 tn, .bool st] 34)).alloc (.cells #[.slice none 0 0, .slice none 0 0, .slice none 0 0, .int .i64 0, .bool false] 34) = W1 at M ⊢
  obtain ⟨tR, qR0, fR0, qR1, fR1, qR2, fR2, qR3, fR3, qR4, fR4⟩ := M.f5 0 rfl
  obtain ⟨tX, qX0, fX0, qX1, fX1, qX2, fX2, qX3, fX3, qX4, fX4⟩ := M.f5 1 rfl
  obtain ⟨tP, qP0, fP0, qP1, fP1, qP2, fP2, qP3, fP3, qP4, fP4⟩ := M.f5 2 rfl
  go_wp2_with fail
  go_call (pright_v a b c d e ts ks fs A0 A1 A2 c0 c1 c2 tn st _ true HY.out.1 _ hk hf (M.blk 1 rfl) (H.out.below M.below)) as r W2 ⟨rfl, g1⟩
  clear tR qR0 fR0 qR1 fR1 qR2 fR2 qR3 fR3 qR4 fR4 tX qX0 fX0 qX1 fX1 qX2 fX2 qX3 fX3 qX4 fX4 tP qP0 fP0 qP1 fP1 qP2 fP2 qP3 fP3 qP4 fP4
  replace M := M.call g1
  clear g1
  obtain ⟨tR, qR0, fR0, qR1, fR1, qR2, fR2, qR3, fR3, qR4, fR4⟩ := M.f5 0 rfl
  obtain ⟨tX, qX0, fX0, qX1, fX1, qX2, fX2, qX3, fX3, qX4, fX4⟩ := M.f5 1 rfl
  obtain ⟨tP, qP0, fP0, qP1, fP1, qP2, fP2, qP3, fP3, qP4, fP4⟩ := M.f5 2 rfl
  go_wp2_with fail
  go_call (copied_s ts ks fs A0 A1 A2 c0 c1 c2 tn st _ _ ht hk hf (M.blk 1 rfl) (H.out.below M.below)) as r W3 ⟨C0, C1, C2, e0, e1, e2, rfl, g1⟩
  clear tR qR0 fR0 qR1 fR1 qR2 fR2 qR3 fR3 qR4 fR4 tX qX0 fX0 qX1 fX1 qX2 fX2 qX3 fX3 qX4 fX4 tP qP0 fP0 qP1 fP1 qP2 fP2 qP3 fP3 qP4 fP4
  replace M : Sep [] w W3 [rT ts.length C0 e0 ts, rK ks.length C1 e1 ks, rF fs.length C2 e2 fs, .blk (w.heap.size + 2) 34 #[.slice none 0 0, .slice none 0 0, .slice none 0 0, .int .i64 0, .bool false], .blk (w.heap.size + 1) 34 #[.slice A0 ts.length c0, .slice A1 ks.length c1, .slice A2 fs.length c2, .int .i64 tn, .bool st], .blk (w.heap.size) 28 #[.int .i64 a, .int .i64 b, .int .i64 c, .int .i64 d, .int .i64 e]] := Sep.comp (ps := []) (rs := [.blk (w.heap.size + 2) 34 #[.slice none 0 0, .slice none 0 0, .slice none 0 0, .int .i64 0, .bool false], .blk (w.heap.size + 1) 34 #[.slice A0 ts.length c0, .slice A1 ks.length c1, .slice A2 fs.length c2, .int .i64 tn, .bool st], .blk (w.heap.size) 28 #[.int .i64 a, .int .i64 b, .int .i64 c, .int .i64 d, .int .i64 e]]) M g1
  clear g1
  obtain ⟨tR, qR0, fR0, qR1, fR1, qR2, fR2, qR3, fR3, qR4, fR4⟩ := M.f5 3 rfl
  obtain ⟨tX, qX0, fX0, qX1, fX1, qX2, fX2, qX3, fX3, qX4, fX4⟩ := M.f5 4 rfl
  obtain ⟨tP, qP0, fP0, qP1, fP1, qP2, fP2, qP3, fP3, qP4, fP4⟩ := M.f5 5 rfl
  go_wp2_with fail
  clear tR qR0 fR0 qR1 fR1 qR2 fR2 qR3 fR3 qR4 fR4 tX qX0 fX0 qX1 fX1 qX2 fX2 qX3 fX3 qX4 fX4 tP qP0 fP0 qP1 fP1 qP2 fP2 qP3 fP3 qP4 fP4
  replace M : Sep [] w (W3.alloc (.cells #[.slice C0 ts.length e0, .slice C1 ks.length e1, .slice C2 fs.length e2, .int .i64 tn, .bool st] 34)) [.blk (W3.heap.size) 34 #[.slice C0 ts.length e0, .slice C1 ks.length e1, .slice C2 fs.length e2, .int .i64 tn, .bool st], rT ts.length C0 e0 ts, rK ks.length C1 e1 ks, rF fs.length C2 e2 fs, .blk (w.heap.size + 2) 34 #[.slice none 0 0, .slice none 0 0, .slice none 0 0, .int .i64 0, .bool false], .blk (w.heap.size + 1) 34 #[.slice A0 ts.length c0, .slice A1 ks.length c1, .slice A2 fs.length c2, .int .i64 tn, .bool st], .blk (w.heap.size) 28 #[.int .i64 a, .int .i64 b, .int .i64 c, .int .i64 d, .int .i64 e]] := M.allocN 34 #[.slice C0 ts.length e0, .slice C1 ks.length e1, .slice C2 fs.length e2, .int .i64 tn, .bool st]
  generalize W3.alloc (.cells #[.slice C0 ts.length e0, .slice C1 ks.length e1, .slice C2 fs.length e2, .int .i64 tn, .bool st] 34) = W4 at M ⊢
  obtain ⟨tY, qY0, fY0, qY1, fY1, qY2, fY2, qY3, fY3, qY4, fY4⟩ := M.f5 0 rfl
  obtain ⟨tR, qR0, fR0, qR1, fR1, qR2, fR2, qR3, fR3, qR4, fR4⟩ := M.f5 4 rfl
  obtain ⟨tX, qX0, fX0, qX1, fX1, qX2, fX2, qX3, fX3, qX4, fX4⟩ := M.f5 5 rfl
  obtain ⟨tP, qP0, fP0, qP1, fP1, qP2, fP2, qP3, fP3, qP4, fP4⟩ := M.f5 6 rfl
  go_wp2_with fail
  replace M : Sep [] w W4 [rF fs.length C2 e2 fs, .blk (W3.heap.size) 34 #[.slice C0 ts.length e0, .slice C1 ks.length e1, .slice C2 fs.length e2, .int .i64 tn, .bool st], rT ts.length C0 e0 ts, rK ks.length C1 e1 ks, .blk (w.heap.size + 2) 34 #[.slice none 0 0, .slice none 0 0, .slice none 0 0, .int .i64 0, .bool false], .blk (w.heap.size + 1) 34 #[.slice A0 ts.length c0, .slice A1 ks.length c1, .slice A2 fs.length c2, .int .i64 tn, .bool st], .blk (w.heap.size) 28 #[.int .i64 a, .int .i64 b, .int .i64 c, .int .i64 d, .int .i64 e]] := M.front 3 rfl
  replace M : Sep [] w W4 [rK ks.length C1 e1 ks, rF fs.length C2 e2 fs, .blk (W3.heap.size) 34 #[.slice C0 ts.length e0, .slice C1 ks.length e1, .slice C2 fs.length e2, .int .i64 tn, .bool st], rT ts.length C0 e0 ts, .blk (w.heap.size + 2) 34 #[.slice none 0 0, .slice none 0 0, .slice none 0 0, .int .i64 0, .bool false], .blk (w.heap.size + 1) 34 #[.slice A0 ts.length c0, .slice A1 ks.length c1, .slice A2 fs.length c2, .int .i64 tn, .bool st], .blk (w.heap.size) 28 #[.int .i64 a, .int .i64 b, .int .i64 c, .int .i64 d, .int .i64 e]] := M.front 3 rfl
  replace M : Sep [] w W4 [rT ts.length C0 e0 ts, rK ks.length C1 e1 ks, rF fs.length C2 e2 fs, .blk (W3.heap.size) 34 #[.slice C0 ts.length e0, .slice C1 ks.length e1, .slice C2 fs.length e2, .int .i64 tn, .bool st], .blk (w.heap.size + 2) 34 #[.slice none 0 0, .slice none 0 0, .slice none 0 0, .int .i64 0, .bool false], .blk (w.heap.size + 1) 34 #[.slice A0 ts.length c0, .slice A1 ks.length c1, .slice A2 fs.length c2, .int .i64 tn, .bool st], .blk (w.heap.size) 28 #[.int .i64 a, .int .i64 b, .int .i64 c, .int .i64 d, .int .i64 e]] := M.front 3 rfl
  replace M : Sep [] w W4 [.blk (W3.heap.size) 34 #[.slice C0 ts.length e0, .slice C1 ks.length e1, .slice C2 fs.length e2, .int .i64 tn, .bool st], rT ts.length C0 e0 ts, rK ks.length C1 e1 ks, rF fs.length C2 e2 fs, .blk (w.heap.size + 2) 34 #[.slice none 0 0, .slice none 0 0, .slice none 0 0, .int .i64 0, .bool false], .blk (w.heap.size + 1) 34 #[.slice A0 ts.length c0, .slice A1 ks.length c1, .slice A2 fs.length c2, .int .i64 tn, .bool st], .blk (w.heap.size) 28 #[.int .i64 a, .int .i64 b, .int .i64 c, .int .i64 d, .int .i64 e]] := M.front 3 rfl
  have hPk := park_yes a b c d e ts ks fs C0 C1 C2 e0 e1 e2 tn st _ k pw po s l o1 wt on v t _ ht hk hf (by omega) (by omega) HY.out.2.1 (Sep.same (ps := [.blk (W3.heap.size) 34 #[.slice C0 ts.length e0, .slice C1 ks.length e1, .slice C2 fs.length e2, .int .i64 tn, .bool st], rT ts.length C0 e0 ts, rK ks.length C1 e1 ks, rF fs.length C2 e2 fs]) (rs := [.blk (w.heap.size + 2) 34 #[.slice none 0 0, .slice none 0 0, .slice none 0 0, .int .i64 0, .bool false], .blk (w.heap.size + 1) 34 #[.slice A0 ts.length c0, .slice A1 ks.length c1, .slice A2 fs.length c2, .int .i64 tn, .bool st], .blk (w.heap.size) 28 #[.int .i64 a, .int .i64 b, .int .i64 c, .int .i64 d, .int .i64 e]]) M (Below.refl _ _)) HY.out.2.2.1
  rw [HY.out.2.2.2.1] at hPk
  refine Calls.mono (by with_reducible exact hPk) ?_
  clear hPk
  rintro r W5 ⟨rfl, g1⟩
  clear tY qY0 fY0 qY1 fY1 qY2 fY2 qY3 fY3 qY4 fY4 tR qR0 fR0 qR1 fR1 qR2 fR2 qR3 fR3 qR4 fR4 tX qX0 fX0 qX1 fX1 qX2 fX2 qX3 fX3 qX4 fX4 tP qP0 fP0 qP1 fP1 qP2 fP2 qP3 fP3 qP4 fP4
  replace M : Sep [] w W5 [.blk (W3.heap.size) 34 #[.slice C0 ts.length e0, .slice C1 ks.length e1, .slice C2 fs.length e2, .int .i64 (tn + 1), .bool st], rT ts.length C0 e0 (ts.set k (parkT ⟨s, l, o1, wt, on, v, t⟩ tn pw po)), rK ks.length C1 e1 ks, rF fs.length C2 e2 fs, .blk (w.heap.size + 2) 34 #[.slice none 0 0, .slice none 0 0, .slice none 0 0, .int .i64 0, .bool false], .blk (w.heap.size + 1) 34 #[.slice A0 ts.length c0, .slice A1 ks.length c1, .slice A2 fs.length c2, .int .i64 tn, .bool st], .blk (w.heap.size) 28 #[.int .i64 a, .int .i64 b, .int .i64 c, .int .i64 d, .int .i64 e]] := Sep.comp (ps := [.blk (W3.heap.size) 34 #[.slice C0 ts.length e0, .slice C1 ks.length e1, .slice C2 fs.length e2, .int .i64 tn, .bool st], rT ts.length C0 e0 ts, rK ks.length C1 e1 ks, rF fs.length C2 e2 fs]) (rs := [.blk (w.heap.size + 2) 34 #[.slice none 0 0, .slice none 0 0, .slice none 0 0, .int .i64 0, .bool false], .blk (w.heap.size + 1) 34 #[.slice A0 ts.length c0, .slice A1 ks.length c1, .slice A2 fs.length c2, .int .i64 tn, .bool st], .blk (w.heap.size) 28 #[.int .i64 a, .int .i64 b, .int .i64 c, .int .i64 d, .int .i64 e]]) M g1
  clear g1
  obtain ⟨tY, qY0, fY0, qY1, fY1, qY2, fY2, qY3, fY3, qY4, fY4⟩ := M.f5 0 rfl
  obtain ⟨tR, qR0, fR0, qR1, fR1, qR2, fR2, qR3, fR3, qR4, fR4⟩ := M.f5 4 rfl
  obtain ⟨tX, qX0, fX0, qX1, fX1, qX2, fX2, qX3, fX3, qX4, fX4⟩ := M.f5 5 rfl
  obtain ⟨tP, qP0, fP0, qP1, fP1, qP2, fP2, qP3, fP3, qP4, fP4⟩ := M.f5 6 rfl
  go_wp2_with fail
  go_call (copied_s ts ks fs A0 A1 A2 c0 c1 c2 tn st _ _ ht hk hf (M.blk 5 rfl) (H.out.below M.below)) as r W6 ⟨D0, D1, D2, f0, f1, f2, rfl, g1⟩
  clear tY qY0 fY0 qY1 fY1 qY2 fY2 qY3 fY3 qY4 fY4 tR qR0 fR0 qR1 fR1 qR2 fR2 qR3 fR3 qR4 fR4 tX qX0 fX0 qX1 fX1 qX2 fX2 qX3 fX3 qX4 fX4 tP qP0 fP0 qP1 fP1 qP2 fP2 qP3 fP3 qP4 fP4
  replace M : Sep [] w W6 [rT ts.length D0 f0 ts, rK ks.length D1 f1 ks, rF fs.length D2 f2 fs, .blk (W3.heap.size) 34 #[.slice C0 ts.length e0, .slice C1 ks.length e1, .slice C2 fs.length e2, .int .i64 (tn + 1), .bool st], rT ts.length C0 e0 (ts.set k (parkT ⟨s, l, o1, wt, on, v, t⟩ tn pw po)), rK ks.length C1 e1 ks, rF fs.length C2 e2 fs, .blk (w.heap.size + 2) 34 #[.slice none 0 0, .slice none 0 0, .slice none 0 0, .int .i64 0, .bool false], .blk (w.heap.size + 1) 34 #[.slice A0 ts.length c0, .slice A1 ks.length c1, .slice A2 fs.length c2, .int .i64 tn, .bool st], .blk (w.heap.size) 28 #[.int .i64 a, .int .i64 b, .int .i64 c, .int .i64 d, .int .i64 e]] := Sep.comp (ps := []) (rs := [.blk (W3.heap.size) 34 #[.slice C0 ts.length e0, .slice C1 ks.length e1, .slice C2 fs.length e2, .int .i64 (tn + 1), .bool st], rT ts.length C0 e0 (ts.set k (parkT ⟨s, l, o1, wt, on, v, t⟩ tn pw po)), rK ks.length C1 e1 ks, rF fs.length C2 e2 fs, .blk (w.heap.size + 2) 34 #[.slice none 0 0, .slice none 0 0, .slice none 0 0, .int .i64 0, .bool false], .blk (w.heap.size + 1) 34 #[.slice A0 ts.length c0, .slice A1 ks.length c1, .slice A2 fs.length c2, .int .i64 tn, .bool st], .blk (w.heap.size) 28 #[.int .i64 a, .int .i64 b, .int .i64 c, .int .i64 d, .int .i64 e]]) M g1
  clear g1
  obtain ⟨tY, qY0, fY0, qY1, fY1, qY2, fY2, qY3, fY3, qY4, fY4⟩ := M.f5 3 rfl
  obtain ⟨tR, qR0, fR0, qR1, fR1, qR2, fR2, qR3, fR3, qR4, fR4⟩ := M.f5 7 rfl
  obtain ⟨tX, qX0, fX0, qX1, fX1, qX2, fX2, qX3, fX3, qX4, fX4⟩ := M.f5 8 rfl
  obtain ⟨tP, qP0, fP0, qP1, fP1, qP2, fP2, qP3, fP3, qP4, fP4⟩ := M.f5 9 rfl
  go_wp2_with fail
  clear tY qY0 fY0 qY1 fY1 qY2 fY2 qY3 fY3 qY4 fY4 tR qR0 fR0 qR1 fR1 qR2 fR2 qR3 fR3 qR4 fR4 tX qX0 fX0 qX1 fX1 qX2 fX2 qX3 fX3 qX4 fX4 tP qP0 fP0 qP1 fP1 qP2 fP2 qP3 fP3 qP4 fP4
  replace M : Sep [] w (((((W6.setCell ⟨w.heap.size + 2, 0, none⟩ (.slice D0 ts.length f0)).setCell ⟨w.heap.size + 2, 1, none⟩ (.slice D1 ks.length f1)).setCell ⟨w.heap.size + 2, 2, none⟩ (.slice D2 fs.length f2)).setCell ⟨w.heap.size + 2, 3, none⟩ (.int .i64 tn)).setCell ⟨w.heap.size + 2, 4, none⟩ (.bool st)) [rT ts.length D0 f0 ts, rK ks.length D1 f1 ks, rF fs.length D2 f2 fs, .blk (W3.heap.size) 34 #[.slice C0 ts.length e0, .slice C1 ks.length e1, .slice C2 fs.length e2, .int .i64 (tn + 1), .bool st], rT ts.length C0 e0 (ts.set k (parkT ⟨s, l, o1, wt, on, v, t⟩ tn pw po)), rK ks.length C1 e1 ks, rF fs.length C2 e2 fs, .blk (w.heap.size + 2) 34 #[.slice D0 ts.length f0, .slice D1 ks.length f1, .slice D2 fs.length f2, .int .i64 tn, .bool st], .blk (w.heap.size + 1) 34 #[.slice A0 ts.length c0, .slice A1 ks.length c1, .slice A2 fs.length c2, .int .i64 tn, .bool st], .blk (w.heap.size) 28 #[.int .i64 a, .int .i64 b, .int .i64 c, .int .i64 d, .int .i64 e]] := M.set5 7 rfl (.slice D0 ts.length f0) (.slice D1 ks.length f1) (.slice D2 fs.length f2) (.int .i64 tn) (.bool st)
  generalize ((((W6.setCell ⟨w.heap.size + 2, 0, none⟩ (.slice D0 ts.length f0)).setCell ⟨w.heap.size + 2, 1, none⟩ (.slice D1 ks.length f1)).setCell ⟨w.heap.size + 2, 2, none⟩ (.slice D2 fs.length f2)).setCell ⟨w.heap.size + 2, 3, none⟩ (.int .i64 tn)).setCell ⟨w.heap.size + 2, 4, none⟩ (.bool st) = W7 at M ⊢
  obtain ⟨tR, qR0, qR1, qR2, qR3, qR4⟩ := M.q5 7 rfl
  exact bodyPost_ret (v := .tuple #[.agg #[.slice D0 ts.length f0, .slice D1 ks.length f1, .slice D2 fs.length f2, .int .i64 tn, .bool st], .bool false]) (by simp [results, Try.results46, go_sem, qR0, qR1, qR2, qR3, qR4]) rfl ⟨D0, D1, D2, f0, f1, f2, rfl, M.take 3⟩
end Go.Proofs.Ytgbckcidmojnoaa
