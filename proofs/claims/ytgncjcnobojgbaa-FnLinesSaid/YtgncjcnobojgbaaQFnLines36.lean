/- The model's l10Apply, call by call. Lists no longer than a million. -/
import Derived.Test.YtgncjcnobojgbaaQFnLines32
import Derived.Test.YtgncjcnobojgbaaQFnLines17

namespace Go.Proofs.Ytgncjcnobojgbaa
open Go.RowKit
set_option linter.unusedVariables false

set_option maxRecDepth 100000 in
set_option maxHeartbeats 4000000 in
theorem apply_7 (a b c d e : Int) (ts : List T7) (ks : List Int) (fs : List F2) (A0 A1 A2 : Option Addr) (c0 c1 c2 : Nat) (tn : Int) (st : Bool) (wk x y : Int) (w : World) (ht : ts.length ≤ 1048576) (hk : ks.length ≤ 1048576) (hf : fs.length ≤ 1048576) (h : InPool w ts ks fs A0 A1 A2) :
    Calls Try.prog 106 #[.agg #[.int .i64 a, .int .i64 b, .int .i64 c, .int .i64 d, .int .i64 e], .agg #[.slice A0 ts.length c0, .slice A1 ks.length c1, .slice A2 fs.length c2, .int .i64 tn, .bool st], .int .i64 wk, .agg #[.int .i64 7, .int .i64 x, .int .i64 y]] w (GaveS [] w (levelM a b c d e ts ks fs tn st wk x y)) := by
  have H := hide h
  clear h
  have hC : Hid (∀ V, InPool V ts ks fs A0 A1 A2 → Calls Try.prog 141 #[.agg #[.int .i64 a, .int .i64 b, .int .i64 c, .int .i64 d, .int .i64 e], .agg #[.slice A0 ts.length c0, .slice A1 ks.length c1, .slice A2 fs.length c2, .int .i64 tn, .bool st], .int .i64 wk, .int .i64 x, .int .i64 y] V (GaveS [] V (levelM a b c d e ts ks fs tn st wk x y))) := hide (fun V hV => level_any a b c d e ts ks fs A0 A1 A2 c0 c1 c2 tn st wk x y V ht hk hf hV)
  generalize levelM a b c d e ts ks fs tn st wk x y = o at hC ⊢
  go_enter Try.func106, Try.ntmps106
  go_wp2_with fail
  generalize hW : ((((w.alloc _).alloc _).alloc _).alloc _).alloc _ = W1
  have M := Sep.e5 hW
  clear hW
  go_call (hC.out _ (H.out.below M.below)) as r W2 ⟨B0, B1, B2, d0, d1, d2, rfl, g1⟩
  replace M := Sep.new M g1
  simp only [List.cons_append, List.nil_append] at M
  clear g1
  obtain ⟨tS, qS0, fS0, qS1, fS1⟩ := M.f2 3 rfl
  obtain ⟨tR, qR0, fR0, qR1, fR1, qR2, fR2, qR3, fR3, qR4, fR4⟩ := M.f5 4 rfl
  go_wp2_with fail
  clear tS qS0 fS0 qS1 fS1 tR qR0 fR0 qR1 fR1 qR2 fR2 qR3 fR3 qR4 fR4
  have N := M.gset5 4 rfl (.slice B0 o.ts.length d0) (.slice B1 o.ks.length d1) (.slice B2 o.fs.length d2) (.int .i64 o.tn) (.bool o.st)
  clear M
  obtain ⟨W3, eW, M⟩ := N
  rw [eW]
  clear eW
  simp only [List.set_cons_zero, List.set_cons_succ] at M
  have N := M.gset2 3 rfl (.int .i64 o.rp) (.int .i64 o.ou)
  clear M
  obtain ⟨W4, eW, M⟩ := N
  rw [eW]
  clear eW
  simp only [List.set_cons_zero, List.set_cons_succ] at M
  obtain ⟨tS, qS0, qS1⟩ := M.q2 3 rfl
  obtain ⟨tR, qR0, qR1, qR2, qR3, qR4⟩ := M.q5 4 rfl
  exact bodyPost_ret (v := .tuple #[.agg #[.slice B0 o.ts.length d0, .slice B1 o.ks.length d1, .slice B2 o.fs.length d2, .int .i64 o.tn, .bool o.st], .agg #[.int .i64 o.rp, .int .i64 o.ou]]) (by simp [results, Try.results106, go_sem, qR0, qR1, qR2, qR3, qR4, qS0, qS1]) rfl ⟨B0, B1, B2, d0, d1, d2, rfl, M.take 3⟩

set_option maxRecDepth 100000 in
set_option maxHeartbeats 4000000 in
theorem apply_8 (a b c d e : Int) (ts : List T7) (ks : List Int) (fs : List F2) (A0 A1 A2 : Option Addr) (c0 c1 c2 : Nat) (tn : Int) (st : Bool) (wk x y : Int) (w : World) (ht : ts.length ≤ 1048576) (hk : ks.length ≤ 1048576) (hf : fs.length ≤ 1048576) (h : InPool w ts ks fs A0 A1 A2) :
    Calls Try.prog 106 #[.agg #[.int .i64 a, .int .i64 b, .int .i64 c, .int .i64 d, .int .i64 e], .agg #[.slice A0 ts.length c0, .slice A1 ks.length c1, .slice A2 fs.length c2, .int .i64 tn, .bool st], .int .i64 wk, .agg #[.int .i64 8, .int .i64 x, .int .i64 y]] w (GaveS [] w (upM a b c d e ts ks fs tn st wk x)) := by
  have H := hide h
  clear h
  have hC : Hid (∀ V, InPool V ts ks fs A0 A1 A2 → Calls Try.prog 142 #[.agg #[.int .i64 a, .int .i64 b, .int .i64 c, .int .i64 d, .int .i64 e], .agg #[.slice A0 ts.length c0, .slice A1 ks.length c1, .slice A2 fs.length c2, .int .i64 tn, .bool st], .int .i64 wk, .int .i64 x] V (GaveS [] V (upM a b c d e ts ks fs tn st wk x))) := hide (fun V hV => up_any a b c d e ts ks fs A0 A1 A2 c0 c1 c2 tn st wk x V ht hk hf hV)
  generalize upM a b c d e ts ks fs tn st wk x = o at hC ⊢
  go_enter Try.func106, Try.ntmps106
  go_wp2_with fail
  generalize hW : ((((w.alloc _).alloc _).alloc _).alloc _).alloc _ = W1
  have M := Sep.e5 hW
  clear hW
  go_call (hC.out _ (H.out.below M.below)) as r W2 ⟨B0, B1, B2, d0, d1, d2, rfl, g1⟩
  replace M := Sep.new M g1
  simp only [List.cons_append, List.nil_append] at M
  clear g1
  obtain ⟨tS, qS0, fS0, qS1, fS1⟩ := M.f2 3 rfl
  obtain ⟨tR, qR0, fR0, qR1, fR1, qR2, fR2, qR3, fR3, qR4, fR4⟩ := M.f5 4 rfl
  go_wp2_with fail
  clear tS qS0 fS0 qS1 fS1 tR qR0 fR0 qR1 fR1 qR2 fR2 qR3 fR3 qR4 fR4
  have N := M.gset5 4 rfl (.slice B0 o.ts.length d0) (.slice B1 o.ks.length d1) (.slice B2 o.fs.length d2) (.int .i64 o.tn) (.bool o.st)
  clear M
  obtain ⟨W3, eW, M⟩ := N
  rw [eW]
  clear eW
  simp only [List.set_cons_zero, List.set_cons_succ] at M
  have N := M.gset2 3 rfl (.int .i64 o.rp) (.int .i64 o.ou)
  clear M
  obtain ⟨W4, eW, M⟩ := N
  rw [eW]
  clear eW
  simp only [List.set_cons_zero, List.set_cons_succ] at M
  obtain ⟨tS, qS0, qS1⟩ := M.q2 3 rfl
  obtain ⟨tR, qR0, qR1, qR2, qR3, qR4⟩ := M.q5 4 rfl
  exact bodyPost_ret (v := .tuple #[.agg #[.slice B0 o.ts.length d0, .slice B1 o.ks.length d1, .slice B2 o.fs.length d2, .int .i64 o.tn, .bool o.st], .agg #[.int .i64 o.rp, .int .i64 o.ou]]) (by simp [results, Try.results106, go_sem, qR0, qR1, qR2, qR3, qR4, qS0, qS1]) rfl ⟨B0, B1, B2, d0, d1, d2, rfl, M.take 3⟩

set_option maxRecDepth 100000 in
set_option maxHeartbeats 4000000 in
theorem apply_9 (a b c d e : Int) (ts : List T7) (ks : List Int) (fs : List F2) (A0 A1 A2 : Option Addr) (c0 c1 c2 : Nat) (tn : Int) (st : Bool) (wk x y : Int) (w : World) (ht : ts.length ≤ 1048576) (hk : ks.length ≤ 1048576) (hf : fs.length ≤ 1048576) (h : InPool w ts ks fs A0 A1 A2) :
    Calls Try.prog 106 #[.agg #[.int .i64 a, .int .i64 b, .int .i64 c, .int .i64 d, .int .i64 e], .agg #[.slice A0 ts.length c0, .slice A1 ks.length c1, .slice A2 fs.length c2, .int .i64 tn, .bool st], .int .i64 wk, .agg #[.int .i64 9, .int .i64 x, .int .i64 y]] w (GaveS [] w (downM a b c d e ts ks fs tn st wk x)) := by
  have H := hide h
  clear h
  have hC : Hid (∀ V, InPool V ts ks fs A0 A1 A2 → Calls Try.prog 143 #[.agg #[.int .i64 a, .int .i64 b, .int .i64 c, .int .i64 d, .int .i64 e], .agg #[.slice A0 ts.length c0, .slice A1 ks.length c1, .slice A2 fs.length c2, .int .i64 tn, .bool st], .int .i64 wk, .int .i64 x] V (GaveS [] V (downM a b c d e ts ks fs tn st wk x))) := hide (fun V hV => down_any a b c d e ts ks fs A0 A1 A2 c0 c1 c2 tn st wk x V ht hk hf hV)
  generalize downM a b c d e ts ks fs tn st wk x = o at hC ⊢
  go_enter Try.func106, Try.ntmps106
  go_wp2_with fail
  generalize hW : ((((w.alloc _).alloc _).alloc _).alloc _).alloc _ = W1
  have M := Sep.e5 hW
  clear hW
  go_call (hC.out _ (H.out.below M.below)) as r W2 ⟨B0, B1, B2, d0, d1, d2, rfl, g1⟩
  replace M := Sep.new M g1
  simp only [List.cons_append, List.nil_append] at M
  clear g1
  obtain ⟨tS, qS0, fS0, qS1, fS1⟩ := M.f2 3 rfl
  obtain ⟨tR, qR0, fR0, qR1, fR1, qR2, fR2, qR3, fR3, qR4, fR4⟩ := M.f5 4 rfl
  go_wp2_with fail
  clear tS qS0 fS0 qS1 fS1 tR qR0 fR0 qR1 fR1 qR2 fR2 qR3 fR3 qR4 fR4
  have N := M.gset5 4 rfl (.slice B0 o.ts.length d0) (.slice B1 o.ks.length d1) (.slice B2 o.fs.length d2) (.int .i64 o.tn) (.bool o.st)
  clear M
  obtain ⟨W3, eW, M⟩ := N
  rw [eW]
  clear eW
  simp only [List.set_cons_zero, List.set_cons_succ] at M
  have N := M.gset2 3 rfl (.int .i64 o.rp) (.int .i64 o.ou)
  clear M
  obtain ⟨W4, eW, M⟩ := N
  rw [eW]
  clear eW
  simp only [List.set_cons_zero, List.set_cons_succ] at M
  obtain ⟨tS, qS0, qS1⟩ := M.q2 3 rfl
  obtain ⟨tR, qR0, qR1, qR2, qR3, qR4⟩ := M.q5 4 rfl
  exact bodyPost_ret (v := .tuple #[.agg #[.slice B0 o.ts.length d0, .slice B1 o.ks.length d1, .slice B2 o.fs.length d2, .int .i64 o.tn, .bool o.st], .agg #[.int .i64 o.rp, .int .i64 o.ou]]) (by simp [results, Try.results106, go_sem, qR0, qR1, qR2, qR3, qR4, qS0, qS1]) rfl ⟨B0, B1, B2, d0, d1, d2, rfl, M.take 3⟩

set_option maxRecDepth 100000 in
set_option maxHeartbeats 4000000 in
theorem apply_10 (a b c d e : Int) (ts : List T7) (ks : List Int) (fs : List F2) (A0 A1 A2 : Option Addr) (c0 c1 c2 : Nat) (tn : Int) (st : Bool) (wk x y : Int) (w : World) (ht : ts.length ≤ 1048576) (hk : ks.length ≤ 1048576) (hf : fs.length ≤ 1048576) (h : InPool w ts ks fs A0 A1 A2) :
    Calls Try.prog 106 #[.agg #[.int .i64 a, .int .i64 b, .int .i64 c, .int .i64 d, .int .i64 e], .agg #[.slice A0 ts.length c0, .slice A1 ks.length c1, .slice A2 fs.length c2, .int .i64 tn, .bool st], .int .i64 wk, .agg #[.int .i64 10, .int .i64 x, .int .i64 y]] w (GaveS [] w (setM a b c d e ts ks fs tn st wk x y)) := by
  have H := hide h
  clear h
  have hC : Hid (∀ V, InPool V ts ks fs A0 A1 A2 → Calls Try.prog 144 #[.agg #[.int .i64 a, .int .i64 b, .int .i64 c, .int .i64 d, .int .i64 e], .agg #[.slice A0 ts.length c0, .slice A1 ks.length c1, .slice A2 fs.length c2, .int .i64 tn, .bool st], .int .i64 wk, .int .i64 x, .int .i64 y] V (GaveS [] V (setM a b c d e ts ks fs tn st wk x y))) := hide (fun V hV => set_any a b c d e ts ks fs A0 A1 A2 c0 c1 c2 tn st wk x y V ht hk hf hV)
  generalize setM a b c d e ts ks fs tn st wk x y = o at hC ⊢
  go_enter Try.func106, Try.ntmps106
  go_wp2_with fail
  generalize hW : ((((w.alloc _).alloc _).alloc _).alloc _).alloc _ = W1
  have M := Sep.e5 hW
  clear hW
  go_call (hC.out _ (H.out.below M.below)) as r W2 ⟨B0, B1, B2, d0, d1, d2, rfl, g1⟩
  replace M := Sep.new M g1
  simp only [List.cons_append, List.nil_append] at M
  clear g1
  obtain ⟨tS, qS0, fS0, qS1, fS1⟩ := M.f2 3 rfl
  obtain ⟨tR, qR0, fR0, qR1, fR1, qR2, fR2, qR3, fR3, qR4, fR4⟩ := M.f5 4 rfl
  go_wp2_with fail
  clear tS qS0 fS0 qS1 fS1 tR qR0 fR0 qR1 fR1 qR2 fR2 qR3 fR3 qR4 fR4
  have N := M.gset5 4 rfl (.slice B0 o.ts.length d0) (.slice B1 o.ks.length d1) (.slice B2 o.fs.length d2) (.int .i64 o.tn) (.bool o.st)
  clear M
  obtain ⟨W3, eW, M⟩ := N
  rw [eW]
  clear eW
  simp only [List.set_cons_zero, List.set_cons_succ] at M
  have N := M.gset2 3 rfl (.int .i64 o.rp) (.int .i64 o.ou)
  clear M
  obtain ⟨W4, eW, M⟩ := N
  rw [eW]
  clear eW
  simp only [List.set_cons_zero, List.set_cons_succ] at M
  obtain ⟨tS, qS0, qS1⟩ := M.q2 3 rfl
  obtain ⟨tR, qR0, qR1, qR2, qR3, qR4⟩ := M.q5 4 rfl
  exact bodyPost_ret (v := .tuple #[.agg #[.slice B0 o.ts.length d0, .slice B1 o.ks.length d1, .slice B2 o.fs.length d2, .int .i64 o.tn, .bool o.st], .agg #[.int .i64 o.rp, .int .i64 o.ou]]) (by simp [results, Try.results106, go_sem, qR0, qR1, qR2, qR3, qR4, qS0, qS1]) rfl ⟨B0, B1, B2, d0, d1, d2, rfl, M.take 3⟩

set_option maxRecDepth 100000 in
set_option maxHeartbeats 4000000 in
theorem apply_11 (a b c d e : Int) (ts : List T7) (ks : List Int) (fs : List F2) (A0 A1 A2 : Option Addr) (c0 c1 c2 : Nat) (tn : Int) (st : Bool) (wk x y : Int) (w : World) (ht : ts.length ≤ 1048576) (hk : ks.length ≤ 1048576) (hf : fs.length ≤ 1048576) (h : InPool w ts ks fs A0 A1 A2) :
    Calls Try.prog 106 #[.agg #[.int .i64 a, .int .i64 b, .int .i64 c, .int .i64 d, .int .i64 e], .agg #[.slice A0 ts.length c0, .slice A1 ks.length c1, .slice A2 fs.length c2, .int .i64 tn, .bool st], .int .i64 wk, .agg #[.int .i64 11, .int .i64 x, .int .i64 y]] w (GaveS [] w (gotM a b c d e ts ks fs tn st wk x)) := by
  have H := hide h
  clear h
  have hC : Hid (∀ V, InPool V ts ks fs A0 A1 A2 → Calls Try.prog 145 #[.agg #[.int .i64 a, .int .i64 b, .int .i64 c, .int .i64 d, .int .i64 e], .agg #[.slice A0 ts.length c0, .slice A1 ks.length c1, .slice A2 fs.length c2, .int .i64 tn, .bool st], .int .i64 wk, .int .i64 x] V (GaveS [] V (gotM a b c d e ts ks fs tn st wk x))) := hide (fun V hV => got_any a b c d e ts ks fs A0 A1 A2 c0 c1 c2 tn st wk x V ht hk hf hV)
  generalize gotM a b c d e ts ks fs tn st wk x = o at hC ⊢
  go_enter Try.func106, Try.ntmps106
  go_wp2_with fail
  generalize hW : ((((w.alloc _).alloc _).alloc _).alloc _).alloc _ = W1
  have M := Sep.e5 hW
  clear hW
  go_call (hC.out _ (H.out.below M.below)) as r W2 ⟨B0, B1, B2, d0, d1, d2, rfl, g1⟩
  replace M := Sep.new M g1
  simp only [List.cons_append, List.nil_append] at M
  clear g1
  obtain ⟨tS, qS0, fS0, qS1, fS1⟩ := M.f2 3 rfl
  obtain ⟨tR, qR0, fR0, qR1, fR1, qR2, fR2, qR3, fR3, qR4, fR4⟩ := M.f5 4 rfl
  go_wp2_with fail
  clear tS qS0 fS0 qS1 fS1 tR qR0 fR0 qR1 fR1 qR2 fR2 qR3 fR3 qR4 fR4
  have N := M.gset5 4 rfl (.slice B0 o.ts.length d0) (.slice B1 o.ks.length d1) (.slice B2 o.fs.length d2) (.int .i64 o.tn) (.bool o.st)
  clear M
  obtain ⟨W3, eW, M⟩ := N
  rw [eW]
  clear eW
  simp only [List.set_cons_zero, List.set_cons_succ] at M
  have N := M.gset2 3 rfl (.int .i64 o.rp) (.int .i64 o.ou)
  clear M
  obtain ⟨W4, eW, M⟩ := N
  rw [eW]
  clear eW
  simp only [List.set_cons_zero, List.set_cons_succ] at M
  obtain ⟨tS, qS0, qS1⟩ := M.q2 3 rfl
  obtain ⟨tR, qR0, qR1, qR2, qR3, qR4⟩ := M.q5 4 rfl
  exact bodyPost_ret (v := .tuple #[.agg #[.slice B0 o.ts.length d0, .slice B1 o.ks.length d1, .slice B2 o.fs.length d2, .int .i64 o.tn, .bool o.st], .agg #[.int .i64 o.rp, .int .i64 o.ou]]) (by simp [results, Try.results106, go_sem, qR0, qR1, qR2, qR3, qR4, qS0, qS1]) rfl ⟨B0, B1, B2, d0, d1, d2, rfl, M.take 3⟩

set_option maxRecDepth 100000 in
set_option maxHeartbeats 4000000 in
theorem apply_12 (a b c d e : Int) (ts : List T7) (ks : List Int) (fs : List F2) (A0 A1 A2 : Option Addr) (c0 c1 c2 : Nat) (tn : Int) (st : Bool) (wk x y : Int) (w : World) (ht : ts.length ≤ 1048576) (hk : ks.length ≤ 1048576) (hf : fs.length ≤ 1048576) (h : InPool w ts ks fs A0 A1 A2) :
    Calls Try.prog 106 #[.agg #[.int .i64 a, .int .i64 b, .int .i64 c, .int .i64 d, .int .i64 e], .agg #[.slice A0 ts.length c0, .slice A1 ks.length c1, .slice A2 fs.length c2, .int .i64 tn, .bool st], .int .i64 wk, .agg #[.int .i64 12, .int .i64 x, .int .i64 y]] w (GaveS [] w (stopM a b c d e ts ks fs tn st wk)) := by
  have H := hide h
  clear h
  have hC : Hid (∀ V, InPool V ts ks fs A0 A1 A2 → Calls Try.prog 146 #[.agg #[.int .i64 a, .int .i64 b, .int .i64 c, .int .i64 d, .int .i64 e], .agg #[.slice A0 ts.length c0, .slice A1 ks.length c1, .slice A2 fs.length c2, .int .i64 tn, .bool st], .int .i64 wk] V (GaveS [] V (stopM a b c d e ts ks fs tn st wk))) := hide (fun V hV => stop_any a b c d e ts ks fs A0 A1 A2 c0 c1 c2 tn st wk  V ht hk hf hV)
  generalize stopM a b c d e ts ks fs tn st wk = o at hC ⊢
  go_enter Try.func106, Try.ntmps106
  go_wp2_with fail
  generalize hW : ((((w.alloc _).alloc _).alloc _).alloc _).alloc _ = W1
  have M := Sep.e5 hW
  clear hW
  go_call (hC.out _ (H.out.below M.below)) as r W2 ⟨B0, B1, B2, d0, d1, d2, rfl, g1⟩
  replace M := Sep.new M g1
  simp only [List.cons_append, List.nil_append] at M
  clear g1
  obtain ⟨tS, qS0, fS0, qS1, fS1⟩ := M.f2 3 rfl
  obtain ⟨tR, qR0, fR0, qR1, fR1, qR2, fR2, qR3, fR3, qR4, fR4⟩ := M.f5 4 rfl
  go_wp2_with fail
  clear tS qS0 fS0 qS1 fS1 tR qR0 fR0 qR1 fR1 qR2 fR2 qR3 fR3 qR4 fR4
  have N := M.gset5 4 rfl (.slice B0 o.ts.length d0) (.slice B1 o.ks.length d1) (.slice B2 o.fs.length d2) (.int .i64 o.tn) (.bool o.st)
  clear M
  obtain ⟨W3, eW, M⟩ := N
  rw [eW]
  clear eW
  simp only [List.set_cons_zero, List.set_cons_succ] at M
  have N := M.gset2 3 rfl (.int .i64 o.rp) (.int .i64 o.ou)
  clear M
  obtain ⟨W4, eW, M⟩ := N
  rw [eW]
  clear eW
  simp only [List.set_cons_zero, List.set_cons_succ] at M
  obtain ⟨tS, qS0, qS1⟩ := M.q2 3 rfl
  obtain ⟨tR, qR0, qR1, qR2, qR3, qR4⟩ := M.q5 4 rfl
  exact bodyPost_ret (v := .tuple #[.agg #[.slice B0 o.ts.length d0, .slice B1 o.ks.length d1, .slice B2 o.fs.length d2, .int .i64 o.tn, .bool o.st], .agg #[.int .i64 o.rp, .int .i64 o.ou]]) (by simp [results, Try.results106, go_sem, qR0, qR1, qR2, qR3, qR4, qS0, qS1]) rfl ⟨B0, B1, B2, d0, d1, d2, rfl, M.take 3⟩
end Go.Proofs.Ytgncjcnobojgbaa
