/- The model's Spawned: the ways that refuse. Lists no longer than a million. -/
import Derived.Test.YtgncjcnobojgbaaQFnLines17

namespace Go.Proofs.Ytgncjcnobojgbaa
open Go.RowKit
set_option linter.unusedVariables false

set_option maxRecDepth 100000 in
set_option maxHeartbeats 4000000 in
theorem spawned_may (a b c d e : Int) (ts : List T7) (ks : List Int) (fs : List F2) (A0 A1 A2 : Option Addr) (c0 c1 c2 : Nat) (tn : Int) (st : Bool) (wk : Int) (lv : Int) (w : World) (ht : ts.length ≤ 1048576) (hk : ks.length ≤ 1048576) (hf : fs.length ≤ 1048576) (h : InPool w ts ks fs A0 A1 A2) (hm : mayB a b c d e ts ks fs tn wk = false) :
    Calls Try.prog 38 #[.agg #[.int .i64 a, .int .i64 b, .int .i64 c, .int .i64 d, .int .i64 e], .agg #[.slice A0 ts.length c0, .slice A1 ks.length c1, .slice A2 fs.length c2, .int .i64 tn, .bool st], .int .i64 wk, .int .i64 lv] w (GaveS [] w (noO (poolB a b c d e ts ks fs tn) ts ks fs tn st 8)) := by
  have H := hide h
  clear h
  have hNo := hide (fun (V : World) (hV : InPool V ts ks fs A0 A1 A2) => l6No_s a b c d e ts ks fs A0 A1 A2 c0 c1 c2 tn st 8 V ht hk hf hV)
  generalize noO (poolB a b c d e ts ks fs tn) ts ks fs tn st 8 = o at hNo ⊢
  have HY := hide (⟨hm, trivial⟩ : _ ∧ True)
  clear hm
  go_enter Try.func38, Try.ntmps38
  go_wp2_with fail
  generalize hW : (((w.alloc _).alloc _).alloc _).alloc _ = W1
  have M := Sep.e4 hW
  clear hW
  obtain ⟨tX, qX0, qX1, qX2, qX3, qX4⟩ := M.q5 2 rfl
  obtain ⟨tP, qP0, qP1, qP2, qP3, qP4⟩ := M.q5 3 rfl
  go_call (l6May_v a b c d e ts ks fs A0 A1 A2 c0 c1 c2 tn st wk false HY.out.1 _ ht hk hf (H.out.below M.below)) as r W2 ⟨rfl, g1⟩
  clear tX qX0 qX1 qX2 qX3 qX4 tP qP0 qP1 qP2 qP3 qP4
  replace M := M.call g1
  clear g1
  obtain ⟨tX, qX0, qX1, qX2, qX3, qX4⟩ := M.q5 2 rfl
  obtain ⟨tP, qP0, qP1, qP2, qP3, qP4⟩ := M.q5 3 rfl
  go_wp2_with fail
  go_call (hNo.out _ (H.out.below M.below)) as r W3 ⟨B0, B1, B2, d0, d1, d2, rfl, g1⟩
  clear tX qX0 qX1 qX2 qX3 qX4 tP qP0 qP1 qP2 qP3 qP4
  replace M := Sep.new M g1
  simp only [List.cons_append, List.nil_append] at M
  clear g1
  obtain ⟨tS, qS0, fS0, qS1, fS1⟩ := M.f2 3 rfl
  obtain ⟨tR, qR0, fR0, qR1, fR1, qR2, fR2, qR3, fR3, qR4, fR4⟩ := M.f5 4 rfl
  go_wp2_with fail
  clear tS qS0 fS0 qS1 fS1 tR qR0 fR0 qR1 fR1 qR2 fR2 qR3 fR3 qR4 fR4
  have N := M.gset5 4 rfl (.slice B0 o.ts.length d0) (.slice B1 o.ks.length d1) (.slice B2 o.fs.length d2) (.int .i64 o.tn) (.bool o.st)
  clear M
  obtain ⟨W4, eW, M⟩ := N
  rw [eW]
  clear eW
  simp only [List.set_cons_zero, List.set_cons_succ] at M
  have N := M.gset2 3 rfl (.int .i64 o.rp) (.int .i64 o.ou)
  clear M
  obtain ⟨W5, eW, M⟩ := N
  rw [eW]
  clear eW
  simp only [List.set_cons_zero, List.set_cons_succ] at M
  obtain ⟨tS, qS0, qS1⟩ := M.q2 3 rfl
  obtain ⟨tR, qR0, qR1, qR2, qR3, qR4⟩ := M.q5 4 rfl
  exact bodyPost_ret (v := .tuple #[.agg #[.slice B0 o.ts.length d0, .slice B1 o.ks.length d1, .slice B2 o.fs.length d2, .int .i64 o.tn, .bool o.st], .agg #[.int .i64 o.rp, .int .i64 o.ou]]) (by simp [results, Try.results38, go_sem, qR0, qR1, qR2, qR3, qR4, qS0, qS1]) rfl ⟨B0, B1, B2, d0, d1, d2, rfl, M.take 3⟩

set_option maxRecDepth 100000 in
set_option maxHeartbeats 4000000 in
theorem spawned_lev (a b c d e : Int) (ts : List T7) (ks : List Int) (fs : List F2) (A0 A1 A2 : Option Addr) (c0 c1 c2 : Nat) (tn : Int) (st : Bool) (wk : Int) (lv : Int) (w : World) (ht : ts.length ≤ 1048576) (hk : ks.length ≤ 1048576) (hf : fs.length ≤ 1048576) (h : InPool w ts ks fs A0 A1 A2) (hm : mayB a b c d e ts ks fs tn wk = true) (hl : levelB a b c d e lv = false) :
    Calls Try.prog 38 #[.agg #[.int .i64 a, .int .i64 b, .int .i64 c, .int .i64 d, .int .i64 e], .agg #[.slice A0 ts.length c0, .slice A1 ks.length c1, .slice A2 fs.length c2, .int .i64 tn, .bool st], .int .i64 wk, .int .i64 lv] w (GaveS [] w (noO (poolB a b c d e ts ks fs tn) ts ks fs tn st 8)) := by
  have H := hide h
  clear h
  have hNo := hide (fun (V : World) (hV : InPool V ts ks fs A0 A1 A2) => l6No_s a b c d e ts ks fs A0 A1 A2 c0 c1 c2 tn st 8 V ht hk hf hV)
  generalize noO (poolB a b c d e ts ks fs tn) ts ks fs tn st 8 = o at hNo ⊢
  have HY := hide (⟨hm, hl, trivial⟩ : _ ∧ _ ∧ True)
  clear hm hl
  go_enter Try.func38, Try.ntmps38
  go_wp2_with fail
  generalize hW : (((w.alloc _).alloc _).alloc _).alloc _ = W1
  have M := Sep.e4 hW
  clear hW
  obtain ⟨tX, qX0, qX1, qX2, qX3, qX4⟩ := M.q5 2 rfl
  obtain ⟨tP, qP0, qP1, qP2, qP3, qP4⟩ := M.q5 3 rfl
  go_call (l6May_v a b c d e ts ks fs A0 A1 A2 c0 c1 c2 tn st wk true HY.out.1 _ ht hk hf (H.out.below M.below)) as r W2 ⟨rfl, g1⟩
  clear tX qX0 qX1 qX2 qX3 qX4 tP qP0 qP1 qP2 qP3 qP4
  replace M := M.call g1
  clear g1
  obtain ⟨tX, qX0, qX1, qX2, qX3, qX4⟩ := M.q5 2 rfl
  obtain ⟨tP, qP0, qP1, qP2, qP3, qP4⟩ := M.q5 3 rfl
  go_wp2_with fail
  go_call (sLevelIn_v a b c d e lv false HY.out.2.1 _) as r W3 ⟨rfl, g1⟩
  clear tX qX0 qX1 qX2 qX3 qX4 tP qP0 qP1 qP2 qP3 qP4
  replace M := M.call g1
  clear g1
  obtain ⟨tX, qX0, qX1, qX2, qX3, qX4⟩ := M.q5 2 rfl
  obtain ⟨tP, qP0, qP1, qP2, qP3, qP4⟩ := M.q5 3 rfl
  go_wp2_with fail
  go_call (hNo.out _ (H.out.below M.below)) as r W4 ⟨B0, B1, B2, d0, d1, d2, rfl, g1⟩
  clear tX qX0 qX1 qX2 qX3 qX4 tP qP0 qP1 qP2 qP3 qP4
  replace M := Sep.new M g1
  simp only [List.cons_append, List.nil_append] at M
  clear g1
  obtain ⟨tS, qS0, fS0, qS1, fS1⟩ := M.f2 3 rfl
  obtain ⟨tR, qR0, fR0, qR1, fR1, qR2, fR2, qR3, fR3, qR4, fR4⟩ := M.f5 4 rfl
  go_wp2_with fail
  clear tS qS0 fS0 qS1 fS1 tR qR0 fR0 qR1 fR1 qR2 fR2 qR3 fR3 qR4 fR4
  have N := M.gset5 4 rfl (.slice B0 o.ts.length d0) (.slice B1 o.ks.length d1) (.slice B2 o.fs.length d2) (.int .i64 o.tn) (.bool o.st)
  clear M
  obtain ⟨W5, eW, M⟩ := N
  rw [eW]
  clear eW
  simp only [List.set_cons_zero, List.set_cons_succ] at M
  have N := M.gset2 3 rfl (.int .i64 o.rp) (.int .i64 o.ou)
  clear M
  obtain ⟨W6, eW, M⟩ := N
  rw [eW]
  clear eW
  simp only [List.set_cons_zero, List.set_cons_succ] at M
  obtain ⟨tS, qS0, qS1⟩ := M.q2 3 rfl
  obtain ⟨tR, qR0, qR1, qR2, qR3, qR4⟩ := M.q5 4 rfl
  exact bodyPost_ret (v := .tuple #[.agg #[.slice B0 o.ts.length d0, .slice B1 o.ks.length d1, .slice B2 o.fs.length d2, .int .i64 o.tn, .bool o.st], .agg #[.int .i64 o.rp, .int .i64 o.ou]]) (by simp [results, Try.results38, go_sem, qR0, qR1, qR2, qR3, qR4, qS0, qS1]) rfl ⟨B0, B1, B2, d0, d1, d2, rfl, M.take 3⟩

set_option maxRecDepth 100000 in
set_option maxHeartbeats 4000000 in
theorem spawned_stop (a b c d e : Int) (ts : List T7) (ks : List Int) (fs : List F2) (A0 A1 A2 : Option Addr) (c0 c1 c2 : Nat) (tn : Int) (wk : Int) (lv : Int) (w : World) (ht : ts.length ≤ 1048576) (hk : ks.length ≤ 1048576) (hf : fs.length ≤ 1048576) (h : InPool w ts ks fs A0 A1 A2) (hm : mayB a b c d e ts ks fs tn wk = true) (hl : levelB a b c d e lv = true) :
    Calls Try.prog 38 #[.agg #[.int .i64 a, .int .i64 b, .int .i64 c, .int .i64 d, .int .i64 e], .agg #[.slice A0 ts.length c0, .slice A1 ks.length c1, .slice A2 fs.length c2, .int .i64 tn, .bool true], .int .i64 wk, .int .i64 lv] w (GaveS [] w (noO (poolB a b c d e ts ks fs tn) ts ks fs tn true 6)) := by
  have H := hide h
  clear h
  have hNo := hide (fun (V : World) (hV : InPool V ts ks fs A0 A1 A2) => l6No_s a b c d e ts ks fs A0 A1 A2 c0 c1 c2 tn true 6 V ht hk hf hV)
  generalize noO (poolB a b c d e ts ks fs tn) ts ks fs tn true 6 = o at hNo ⊢
  have HY := hide (⟨hm, hl, trivial⟩ : _ ∧ _ ∧ True)
  clear hm hl
  go_enter Try.func38, Try.ntmps38
  go_wp2_with fail
  generalize hW : (((w.alloc _).alloc _).alloc _).alloc _ = W1
  have M := Sep.e4 hW
  clear hW
  obtain ⟨tX, qX0, qX1, qX2, qX3, qX4⟩ := M.q5 2 rfl
  obtain ⟨tP, qP0, qP1, qP2, qP3, qP4⟩ := M.q5 3 rfl
  go_call (l6May_v a b c d e ts ks fs A0 A1 A2 c0 c1 c2 tn true wk true HY.out.1 _ ht hk hf (H.out.below M.below)) as r W2 ⟨rfl, g1⟩
  clear tX qX0 qX1 qX2 qX3 qX4 tP qP0 qP1 qP2 qP3 qP4
  replace M := M.call g1
  clear g1
  obtain ⟨tX, qX0, qX1, qX2, qX3, qX4⟩ := M.q5 2 rfl
  obtain ⟨tP, qP0, qP1, qP2, qP3, qP4⟩ := M.q5 3 rfl
  go_wp2_with fail
  go_call (sLevelIn_v a b c d e lv true HY.out.2.1 _) as r W3 ⟨rfl, g1⟩
  clear tX qX0 qX1 qX2 qX3 qX4 tP qP0 qP1 qP2 qP3 qP4
  replace M := M.call g1
  clear g1
  obtain ⟨tX, qX0, qX1, qX2, qX3, qX4⟩ := M.q5 2 rfl
  obtain ⟨tP, qP0, qP1, qP2, qP3, qP4⟩ := M.q5 3 rfl
  go_wp2_with fail
  go_call (hNo.out _ (H.out.below M.below)) as r W4 ⟨B0, B1, B2, d0, d1, d2, rfl, g1⟩
  clear tX qX0 qX1 qX2 qX3 qX4 tP qP0 qP1 qP2 qP3 qP4
  replace M := Sep.new M g1
  simp only [List.cons_append, List.nil_append] at M
  clear g1
  obtain ⟨tS, qS0, fS0, qS1, fS1⟩ := M.f2 3 rfl
  obtain ⟨tR, qR0, fR0, qR1, fR1, qR2, fR2, qR3, fR3, qR4, fR4⟩ := M.f5 4 rfl
  go_wp2_with fail
  clear tS qS0 fS0 qS1 fS1 tR qR0 fR0 qR1 fR1 qR2 fR2 qR3 fR3 qR4 fR4
  have N := M.gset5 4 rfl (.slice B0 o.ts.length d0) (.slice B1 o.ks.length d1) (.slice B2 o.fs.length d2) (.int .i64 o.tn) (.bool o.st)
  clear M
  obtain ⟨W5, eW, M⟩ := N
  rw [eW]
  clear eW
  simp only [List.set_cons_zero, List.set_cons_succ] at M
  have N := M.gset2 3 rfl (.int .i64 o.rp) (.int .i64 o.ou)
  clear M
  obtain ⟨W6, eW, M⟩ := N
  rw [eW]
  clear eW
  simp only [List.set_cons_zero, List.set_cons_succ] at M
  obtain ⟨tS, qS0, qS1⟩ := M.q2 3 rfl
  obtain ⟨tR, qR0, qR1, qR2, qR3, qR4⟩ := M.q5 4 rfl
  exact bodyPost_ret (v := .tuple #[.agg #[.slice B0 o.ts.length d0, .slice B1 o.ks.length d1, .slice B2 o.fs.length d2, .int .i64 o.tn, .bool o.st], .agg #[.int .i64 o.rp, .int .i64 o.ou]]) (by simp [results, Try.results38, go_sem, qR0, qR1, qR2, qR3, qR4, qS0, qS1]) rfl ⟨B0, B1, B2, d0, d1, d2, rfl, M.take 3⟩

set_option maxRecDepth 100000 in
set_option maxHeartbeats 4000000 in
theorem spawned_full (a b c d e : Int) (ts : List T7) (ks : List Int) (fs : List F2) (A0 A1 A2 : Option Addr) (c0 c1 c2 : Nat) (tn : Int) (wk : Int) (lv : Int) (w : World) (ht : ts.length ≤ 1048576) (hk : ks.length ≤ 1048576) (hf : fs.length ≤ 1048576) (h : InPool w ts ks fs A0 A1 A2) (hm : mayB a b c d e ts ks fs tn wk = true) (hl : levelB a b c d e lv = true) (hb : b ≤ ts.length) :
    Calls Try.prog 38 #[.agg #[.int .i64 a, .int .i64 b, .int .i64 c, .int .i64 d, .int .i64 e], .agg #[.slice A0 ts.length c0, .slice A1 ks.length c1, .slice A2 fs.length c2, .int .i64 tn, .bool false], .int .i64 wk, .int .i64 lv] w (GaveS [] w (noO (poolB a b c d e ts ks fs tn) ts ks fs tn false 4)) := by
  have H := hide h
  clear h
  have hNo := hide (fun (V : World) (hV : InPool V ts ks fs A0 A1 A2) => l6No_s a b c d e ts ks fs A0 A1 A2 c0 c1 c2 tn false 4 V ht hk hf hV)
  generalize noO (poolB a b c d e ts ks fs tn) ts ks fs tn false 4 = o at hNo ⊢
  have HY := hide (⟨hm, hl, trivial⟩ : _ ∧ _ ∧ True)
  clear hm hl
  go_enter Try.func38, Try.ntmps38
  go_wp2_with fail
  generalize hW : (((w.alloc _).alloc _).alloc _).alloc _ = W1
  have M := Sep.e4 hW
  clear hW
  obtain ⟨tX, qX0, qX1, qX2, qX3, qX4⟩ := M.q5 2 rfl
  obtain ⟨tP, qP0, qP1, qP2, qP3, qP4⟩ := M.q5 3 rfl
  go_call (l6May_v a b c d e ts ks fs A0 A1 A2 c0 c1 c2 tn false wk true HY.out.1 _ ht hk hf (H.out.below M.below)) as r W2 ⟨rfl, g1⟩
  clear tX qX0 qX1 qX2 qX3 qX4 tP qP0 qP1 qP2 qP3 qP4
  replace M := M.call g1
  clear g1
  obtain ⟨tX, qX0, qX1, qX2, qX3, qX4⟩ := M.q5 2 rfl
  obtain ⟨tP, qP0, qP1, qP2, qP3, qP4⟩ := M.q5 3 rfl
  go_wp2_with fail
  go_call (sLevelIn_v a b c d e lv true HY.out.2.1 _) as r W3 ⟨rfl, g1⟩
  clear tX qX0 qX1 qX2 qX3 qX4 tP qP0 qP1 qP2 qP3 qP4
  replace M := M.call g1
  clear g1
  obtain ⟨tX, qX0, qX1, qX2, qX3, qX4⟩ := M.q5 2 rfl
  obtain ⟨tP, qP0, qP1, qP2, qP3, qP4⟩ := M.q5 3 rfl
  go_wp2_with fail
  go_call (hNo.out _ (H.out.below M.below)) as r W4 ⟨B0, B1, B2, d0, d1, d2, rfl, g1⟩
  clear tX qX0 qX1 qX2 qX3 qX4 tP qP0 qP1 qP2 qP3 qP4
  replace M := Sep.new M g1
  simp only [List.cons_append, List.nil_append] at M
  clear g1
  obtain ⟨tS, qS0, fS0, qS1, fS1⟩ := M.f2 3 rfl
  obtain ⟨tR, qR0, fR0, qR1, fR1, qR2, fR2, qR3, fR3, qR4, fR4⟩ := M.f5 4 rfl
  go_wp2_with fail
  clear tS qS0 fS0 qS1 fS1 tR qR0 fR0 qR1 fR1 qR2 fR2 qR3 fR3 qR4 fR4
  have N := M.gset5 4 rfl (.slice B0 o.ts.length d0) (.slice B1 o.ks.length d1) (.slice B2 o.fs.length d2) (.int .i64 o.tn) (.bool o.st)
  clear M
  obtain ⟨W5, eW, M⟩ := N
  rw [eW]
  clear eW
  simp only [List.set_cons_zero, List.set_cons_succ] at M
  have N := M.gset2 3 rfl (.int .i64 o.rp) (.int .i64 o.ou)
  clear M
  obtain ⟨W6, eW, M⟩ := N
  rw [eW]
  clear eW
  simp only [List.set_cons_zero, List.set_cons_succ] at M
  obtain ⟨tS, qS0, qS1⟩ := M.q2 3 rfl
  obtain ⟨tR, qR0, qR1, qR2, qR3, qR4⟩ := M.q5 4 rfl
  exact bodyPost_ret (v := .tuple #[.agg #[.slice B0 o.ts.length d0, .slice B1 o.ks.length d1, .slice B2 o.fs.length d2, .int .i64 o.tn, .bool o.st], .agg #[.int .i64 o.rp, .int .i64 o.ou]]) (by simp [results, Try.results38, go_sem, qR0, qR1, qR2, qR3, qR4, qS0, qS1]) rfl ⟨B0, B1, B2, d0, d1, d2, rfl, M.take 3⟩
end Go.Proofs.Ytgncjcnobojgbaa
