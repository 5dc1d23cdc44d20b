/- The model's l10Apply, call by call. Lists no longer than a million. -/
import Derived.Test.YtgncjcnobojgbaaQFnLines34
import Derived.Test.YtgncjcnobojgbaaQFnLines17
import Derived.Test.YtgncjcnobojgbaaQFnLines32

namespace Go.Proofs.Ytgncjcnobojgbaa
open Go.RowKit
set_option linter.unusedVariables false

set_option maxRecDepth 100000 in
set_option maxHeartbeats 4000000 in
theorem apply_1 (a b c d e : Int) (ts : List T7) (ks : List Int) (fs : List F2) (A0 A1 A2 : Option Addr) (c0 c1 c2 : Nat) (tn : Int) (st : Bool) (wk x y : Int) (w : World) (ht : ts.length ≤ 1048576) (hk : ks.length ≤ 1048576) (hf : fs.length ≤ 1048576) (h : InPool w ts ks fs A0 A1 A2) :
    Calls Try.prog 106 #[.agg #[.int .i64 a, .int .i64 b, .int .i64 c, .int .i64 d, .int .i64 e], .agg #[.slice A0 ts.length c0, .slice A1 ks.length c1, .slice A2 fs.length c2, .int .i64 tn, .bool st], .int .i64 wk, .agg #[.int .i64 1, .int .i64 x, .int .i64 y]] w (GaveS [] w (spawnM a b c d e ts ks fs tn st wk x)) := by
  have H := hide h
  clear h
  have hC : Hid (∀ V, InPool V ts ks fs A0 A1 A2 → Calls Try.prog 38 #[.agg #[.int .i64 a, .int .i64 b, .int .i64 c, .int .i64 d, .int .i64 e], .agg #[.slice A0 ts.length c0, .slice A1 ks.length c1, .slice A2 fs.length c2, .int .i64 tn, .bool st], .int .i64 wk, .int .i64 x] V (GaveS [] V (spawnM a b c d e ts ks fs tn st wk x))) := hide (fun V hV => spawn_any a b c d e ts ks fs A0 A1 A2 c0 c1 c2 tn st wk x V ht hk hf hV)
  generalize spawnM a b c d e ts ks fs tn st wk x = o at hC ⊢
  go_enter Try.func106, Try.ntmps106
  go_wp2_with fail
  generalize hW : ((((w.alloc _).alloc _).alloc _).alloc _).alloc _ = W1
  have M := Sep.e5 hW
  clear hW
  go_call (hC.out _ (H.out.below M.below)) as r W2 ⟨B0, B1, B2, d0, d1, d2, rfl, g1⟩
  replace M := Sep.new M g1
  simp only [List.cons_append, List.nil_append] at M
  clear g1
  obtain ⟨tS, qS0, fS0, qS1, fS1⟩ := M.f2 3 rfl
  obtain ⟨tR, qR0, fR0, qR1, fR1, qR2, fR2, qR3, fR3, qR4, fR4⟩ := M.f5 4 rfl
  go_wp2_with fail
  clear tS qS0 fS0 qS1 fS1 tR qR0 fR0 qR1 fR1 qR2 fR2 qR3 fR3 qR4 fR4
  have N := M.gset5 4 rfl (.slice B0 o.ts.length d0) (.slice B1 o.ks.length d1) (.slice B2 o.fs.length d2) (.int .i64 o.tn) (.bool o.st)
  clear M
  obtain ⟨W3, eW, M⟩ := N
  rw [eW]
  clear eW
  simp only [List.set_cons_zero, List.set_cons_succ] at M
  have N := M.gset2 3 rfl (.int .i64 o.rp) (.int .i64 o.ou)
  clear M
  obtain ⟨W4, eW, M⟩ := N
  rw [eW]
  clear eW
  simp only [List.set_cons_zero, List.set_cons_succ] at M
  obtain ⟨tS, qS0, qS1⟩ := M.q2 3 rfl
  obtain ⟨tR, qR0, qR1, qR2, qR3, qR4⟩ := M.q5 4 rfl
  exact bodyPost_ret (v := .tuple #[.agg #[.slice B0 o.ts.length d0, .slice B1 o.ks.length d1, .slice B2 o.fs.length d2, .int .i64 o.tn, .bool o.st], .agg #[.int .i64 o.rp, .int .i64 o.ou]]) (by simp [results, Try.results106, go_sem, qR0, qR1, qR2, qR3, qR4, qS0, qS1]) rfl ⟨B0, B1, B2, d0, d1, d2, rfl, M.take 3⟩
end Go.Proofs.Ytgncjcnobojgbaa

namespace Go.Proofs.Ytgncjcnobojgbaa
open Go.RowKit
set_option linter.unusedVariables false

set_option maxRecDepth 100000 in
set_option maxHeartbeats 4000000 in
theorem apply_2 (a b c d e : Int) (ts : List T7) (ks : List Int) (fs : List F2) (A0 A1 A2 : Option Addr) (c0 c1 c2 : Nat) (tn : Int) (st : Bool) (wk x y : Int) (w : World) (ht : ts.length ≤ 1048576) (hk : ks.length ≤ 1048576) (hf : fs.length ≤ 1048576) (h : InPool w ts ks fs A0 A1 A2) :
    Calls Try.prog 106 #[.agg #[.int .i64 a, .int .i64 b, .int .i64 c, .int .i64 d, .int .i64 e], .agg #[.slice A0 ts.length c0, .slice A1 ks.length c1, .slice A2 fs.length c2, .int .i64 tn, .bool st], .int .i64 wk, .agg #[.int .i64 2, .int .i64 x, .int .i64 y]] w (GaveS [] w (takeM a b c d e ts ks fs tn st wk)) := by
  have H := hide h
  clear h
  have hC : Hid (∀ V, InPool V ts ks fs A0 A1 A2 → Calls Try.prog 41 #[.agg #[.int .i64 a, .int .i64 b, .int .i64 c, .int .i64 d, .int .i64 e], .agg #[.slice A0 ts.length c0, .slice A1 ks.length c1, .slice A2 fs.length c2, .int .i64 tn, .bool st], .int .i64 wk] V (GaveS [] V (takeM a b c d e ts ks fs tn st wk))) := hide (fun V hV => take_any a b c d e ts ks fs A0 A1 A2 c0 c1 c2 tn st wk  V ht hk hf hV)
  generalize takeM a b c d e ts ks fs tn st wk = o at hC ⊢
  go_enter Try.func106, Try.ntmps106
  go_wp2_with fail
  generalize hW : ((((w.alloc _).alloc _).alloc _).alloc _).alloc _ = W1
  have M := Sep.e5 hW
  clear hW
  go_call (hC.out _ (H.out.below M.below)) as r W2 ⟨B0, B1, B2, d0, d1, d2, rfl, g1⟩
  replace M := Sep.new M g1
  simp only [List.cons_append, List.nil_append] at M
  clear g1
  obtain ⟨tS, qS0, fS0, qS1, fS1⟩ := M.f2 3 rfl
  obtain ⟨tR, qR0, fR0, qR1, fR1, qR2, fR2, qR3, fR3, qR4, fR4⟩ := M.f5 4 rfl
  go_wp2_with fail
  clear tS qS0 fS0 qS1 fS1 tR qR0 fR0 qR1 fR1 qR2 fR2 qR3 fR3 qR4 fR4
  have N := M.gset5 4 rfl (.slice B0 o.ts.length d0) (.slice B1 o.ks.length d1) (.slice B2 o.fs.length d2) (.int .i64 o.tn) (.bool o.st)
  clear M
  obtain ⟨W3, eW, M⟩ := N
  rw [eW]
  clear eW
  simp only [List.set_cons_zero, List.set_cons_succ] at M
  have N := M.gset2 3 rfl (.int .i64 o.rp) (.int .i64 o.ou)
  clear M
  obtain ⟨W4, eW, M⟩ := N
  rw [eW]
  clear eW
  simp only [List.set_cons_zero, List.set_cons_succ] at M
  obtain ⟨tS, qS0, qS1⟩ := M.q2 3 rfl
  obtain ⟨tR, qR0, qR1, qR2, qR3, qR4⟩ := M.q5 4 rfl
  exact bodyPost_ret (v := .tuple #[.agg #[.slice B0 o.ts.length d0, .slice B1 o.ks.length d1, .slice B2 o.fs.length d2, .int .i64 o.tn, .bool o.st], .agg #[.int .i64 o.rp, .int .i64 o.ou]]) (by simp [results, Try.results106, go_sem, qR0, qR1, qR2, qR3, qR4, qS0, qS1]) rfl ⟨B0, B1, B2, d0, d1, d2, rfl, M.take 3⟩

set_option maxRecDepth 100000 in
set_option maxHeartbeats 4000000 in
theorem apply_3 (a b c d e : Int) (ts : List T7) (ks : List Int) (fs : List F2) (A0 A1 A2 : Option Addr) (c0 c1 c2 : Nat) (tn : Int) (st : Bool) (wk x y : Int) (w : World) (ht : ts.length ≤ 1048576) (hk : ks.length ≤ 1048576) (hf : fs.length ≤ 1048576) (h : InPool w ts ks fs A0 A1 A2) :
    Calls Try.prog 106 #[.agg #[.int .i64 a, .int .i64 b, .int .i64 c, .int .i64 d, .int .i64 e], .agg #[.slice A0 ts.length c0, .slice A1 ks.length c1, .slice A2 fs.length c2, .int .i64 tn, .bool st], .int .i64 wk, .agg #[.int .i64 3, .int .i64 x, .int .i64 y]] w (GaveS [] w (yieldM a b c d e ts ks fs tn st wk)) := by
  have H := hide h
  clear h
  have hC : Hid (∀ V, InPool V ts ks fs A0 A1 A2 → Calls Try.prog 43 #[.agg #[.int .i64 a, .int .i64 b, .int .i64 c, .int .i64 d, .int .i64 e], .agg #[.slice A0 ts.length c0, .slice A1 ks.length c1, .slice A2 fs.length c2, .int .i64 tn, .bool st], .int .i64 wk] V (GaveS [] V (yieldM a b c d e ts ks fs tn st wk))) := hide (fun V hV => yield_any a b c d e ts ks fs A0 A1 A2 c0 c1 c2 tn st wk  V ht hk hf hV)
  generalize yieldM a b c d e ts ks fs tn st wk = o at hC ⊢
  go_enter Try.func106, Try.ntmps106
  go_wp2_with fail
  generalize hW : ((((w.alloc _).alloc _).alloc _).alloc _).alloc _ = W1
  have M := Sep.e5 hW
  clear hW
  go_call (hC.out _ (H.out.below M.below)) as r W2 ⟨B0, B1, B2, d0, d1, d2, rfl, g1⟩
  replace M := Sep.new M g1
  simp only [List.cons_append, List.nil_append] at M
  clear g1
  obtain ⟨tS, qS0, fS0, qS1, fS1⟩ := M.f2 3 rfl
  obtain ⟨tR, qR0, fR0, qR1, fR1, qR2, fR2, qR3, fR3, qR4, fR4⟩ := M.f5 4 rfl
  go_wp2_with fail
  clear tS qS0 fS0 qS1 fS1 tR qR0 fR0 qR1 fR1 qR2 fR2 qR3 fR3 qR4 fR4
  have N := M.gset5 4 rfl (.slice B0 o.ts.length d0) (.slice B1 o.ks.length d1) (.slice B2 o.fs.length d2) (.int .i64 o.tn) (.bool o.st)
  clear M
  obtain ⟨W3, eW, M⟩ := N
  rw [eW]
  clear eW
  simp only [List.set_cons_zero, List.set_cons_succ] at M
  have N := M.gset2 3 rfl (.int .i64 o.rp) (.int .i64 o.ou)
  clear M
  obtain ⟨W4, eW, M⟩ := N
  rw [eW]
  clear eW
  simp only [List.set_cons_zero, List.set_cons_succ] at M
  obtain ⟨tS, qS0, qS1⟩ := M.q2 3 rfl
  obtain ⟨tR, qR0, qR1, qR2, qR3, qR4⟩ := M.q5 4 rfl
  exact bodyPost_ret (v := .tuple #[.agg #[.slice B0 o.ts.length d0, .slice B1 o.ks.length d1, .slice B2 o.fs.length d2, .int .i64 o.tn, .bool o.st], .agg #[.int .i64 o.rp, .int .i64 o.ou]]) (by simp [results, Try.results106, go_sem, qR0, qR1, qR2, qR3, qR4, qS0, qS1]) rfl ⟨B0, B1, B2, d0, d1, d2, rfl, M.take 3⟩

set_option maxRecDepth 100000 in
set_option maxHeartbeats 4000000 in
theorem apply_4 (a b c d e : Int) (ts : List T7) (ks : List Int) (fs : List F2) (A0 A1 A2 : Option Addr) (c0 c1 c2 : Nat) (tn : Int) (st : Bool) (wk x y : Int) (w : World) (ht : ts.length ≤ 1048576) (hk : ks.length ≤ 1048576) (hf : fs.length ≤ 1048576) (h : InPool w ts ks fs A0 A1 A2) :
    Calls Try.prog 106 #[.agg #[.int .i64 a, .int .i64 b, .int .i64 c, .int .i64 d, .int .i64 e], .agg #[.slice A0 ts.length c0, .slice A1 ks.length c1, .slice A2 fs.length c2, .int .i64 tn, .bool st], .int .i64 wk, .agg #[.int .i64 4, .int .i64 x, .int .i64 y]] w (GaveS [] w (end_M a b c d e ts ks fs tn st wk x)) := by
  have H := hide h
  clear h
  have hC : Hid (∀ V, InPool V ts ks fs A0 A1 A2 → Calls Try.prog 45 #[.agg #[.int .i64 a, .int .i64 b, .int .i64 c, .int .i64 d, .int .i64 e], .agg #[.slice A0 ts.length c0, .slice A1 ks.length c1, .slice A2 fs.length c2, .int .i64 tn, .bool st], .int .i64 wk, .int .i64 x] V (GaveS [] V (end_M a b c d e ts ks fs tn st wk x))) := hide (fun V hV => end__any a b c d e ts ks fs A0 A1 A2 c0 c1 c2 tn st wk x V ht hk hf hV)
  generalize end_M a b c d e ts ks fs tn st wk x = o at hC ⊢
  go_enter Try.func106, Try.ntmps106
  go_wp2_with fail
  generalize hW : ((((w.alloc _).alloc _).alloc _).alloc _).alloc _ = W1
  have M := Sep.e5 hW
  clear hW
  go_call (hC.out _ (H.out.below M.below)) as r W2 ⟨B0, B1, B2, d0, d1, d2, rfl, g1⟩
  replace M := Sep.new M g1
  simp only [List.cons_append, List.nil_append] at M
  clear g1
  obtain ⟨tS, qS0, fS0, qS1, fS1⟩ := M.f2 3 rfl
  obtain ⟨tR, qR0, fR0, qR1, fR1, qR2, fR2, qR3, fR3, qR4, fR4⟩ := M.f5 4 rfl
  go_wp2_with fail
  clear tS qS0 fS0 qS1 fS1 tR qR0 fR0 qR1 fR1 qR2 fR2 qR3 fR3 qR4 fR4
  have N := M.gset5 4 rfl (.slice B0 o.ts.length d0) (.slice B1 o.ks.length d1) (.slice B2 o.fs.length d2) (.int .i64 o.tn) (.bool o.st)
  clear M
  obtain ⟨W3, eW, M⟩ := N
  rw [eW]
  clear eW
  simp only [List.set_cons_zero, List.set_cons_succ] at M
  have N := M.gset2 3 rfl (.int .i64 o.rp) (.int .i64 o.ou)
  clear M
  obtain ⟨W4, eW, M⟩ := N
  rw [eW]
  clear eW
  simp only [List.set_cons_zero, List.set_cons_succ] at M
  obtain ⟨tS, qS0, qS1⟩ := M.q2 3 rfl
  obtain ⟨tR, qR0, qR1, qR2, qR3, qR4⟩ := M.q5 4 rfl
  exact bodyPost_ret (v := .tuple #[.agg #[.slice B0 o.ts.length d0, .slice B1 o.ks.length d1, .slice B2 o.fs.length d2, .int .i64 o.tn, .bool o.st], .agg #[.int .i64 o.rp, .int .i64 o.ou]]) (by simp [results, Try.results106, go_sem, qR0, qR1, qR2, qR3, qR4, qS0, qS1]) rfl ⟨B0, B1, B2, d0, d1, d2, rfl, M.take 3⟩

set_option maxRecDepth 100000 in
set_option maxHeartbeats 4000000 in
theorem apply_5 (a b c d e : Int) (ts : List T7) (ks : List Int) (fs : List F2) (A0 A1 A2 : Option Addr) (c0 c1 c2 : Nat) (tn : Int) (st : Bool) (wk x y : Int) (w : World) (ht : ts.length ≤ 1048576) (hk : ks.length ≤ 1048576) (hf : fs.length ≤ 1048576) (h : InPool w ts ks fs A0 A1 A2) :
    Calls Try.prog 106 #[.agg #[.int .i64 a, .int .i64 b, .int .i64 c, .int .i64 d, .int .i64 e], .agg #[.slice A0 ts.length c0, .slice A1 ks.length c1, .slice A2 fs.length c2, .int .i64 tn, .bool st], .int .i64 wk, .agg #[.int .i64 5, .int .i64 x, .int .i64 y]] w (GaveS [] w (joinM a b c d e ts ks fs tn st wk x)) := by
  have H := hide h
  clear h
  have hC : Hid (∀ V, InPool V ts ks fs A0 A1 A2 → Calls Try.prog 139 #[.agg #[.int .i64 a, .int .i64 b, .int .i64 c, .int .i64 d, .int .i64 e], .agg #[.slice A0 ts.length c0, .slice A1 ks.length c1, .slice A2 fs.length c2, .int .i64 tn, .bool st], .int .i64 wk, .int .i64 x] V (GaveS [] V (joinM a b c d e ts ks fs tn st wk x))) := hide (fun V hV => join_any a b c d e ts ks fs A0 A1 A2 c0 c1 c2 tn st wk x V ht hk hf hV)
  generalize joinM a b c d e ts ks fs tn st wk x = o at hC ⊢
  go_enter Try.func106, Try.ntmps106
  go_wp2_with fail
  generalize hW : ((((w.alloc _).alloc _).alloc _).alloc _).alloc _ = W1
  have M := Sep.e5 hW
  clear hW
  go_call (hC.out _ (H.out.below M.below)) as r W2 ⟨B0, B1, B2, d0, d1, d2, rfl, g1⟩
  replace M := Sep.new M g1
  simp only [List.cons_append, List.nil_append] at M
  clear g1
  obtain ⟨tS, qS0, fS0, qS1, fS1⟩ := M.f2 3 rfl
  obtain ⟨tR, qR0, fR0, qR1, fR1, qR2, fR2, qR3, fR3, qR4, fR4⟩ := M.f5 4 rfl
  go_wp2_with fail
  clear tS qS0 fS0 qS1 fS1 tR qR0 fR0 qR1 fR1 qR2 fR2 qR3 fR3 qR4 fR4
  have N := M.gset5 4 rfl (.slice B0 o.ts.length d0) (.slice B1 o.ks.length d1) (.slice B2 o.fs.length d2) (.int .i64 o.tn) (.bool o.st)
  clear M
  obtain ⟨W3, eW, M⟩ := N
  rw [eW]
  clear eW
  simp only [List.set_cons_zero, List.set_cons_succ] at M
  have N := M.gset2 3 rfl (.int .i64 o.rp) (.int .i64 o.ou)
  clear M
  obtain ⟨W4, eW, M⟩ := N
  rw [eW]
  clear eW
  simp only [List.set_cons_zero, List.set_cons_succ] at M
  obtain ⟨tS, qS0, qS1⟩ := M.q2 3 rfl
  obtain ⟨tR, qR0, qR1, qR2, qR3, qR4⟩ := M.q5 4 rfl
  exact bodyPost_ret (v := .tuple #[.agg #[.slice B0 o.ts.length d0, .slice B1 o.ks.length d1, .slice B2 o.fs.length d2, .int .i64 o.tn, .bool o.st], .agg #[.int .i64 o.rp, .int .i64 o.ou]]) (by simp [results, Try.results106, go_sem, qR0, qR1, qR2, qR3, qR4, qS0, qS1]) rfl ⟨B0, B1, B2, d0, d1, d2, rfl, M.take 3⟩

set_option maxRecDepth 100000 in
set_option maxHeartbeats 4000000 in
theorem apply_6 (a b c d e : Int) (ts : List T7) (ks : List Int) (fs : List F2) (A0 A1 A2 : Option Addr) (c0 c1 c2 : Nat) (tn : Int) (st : Bool) (wk x y : Int) (w : World) (ht : ts.length ≤ 1048576) (hk : ks.length ≤ 1048576) (hf : fs.length ≤ 1048576) (h : InPool w ts ks fs A0 A1 A2) :
    Calls Try.prog 106 #[.agg #[.int .i64 a, .int .i64 b, .int .i64 c, .int .i64 d, .int .i64 e], .agg #[.slice A0 ts.length c0, .slice A1 ks.length c1, .slice A2 fs.length c2, .int .i64 tn, .bool st], .int .i64 wk, .agg #[.int .i64 6, .int .i64 x, .int .i64 y]] w (GaveS [] w (cancelM a b c d e ts ks fs tn st wk x)) := by
  have H := hide h
  clear h
  have hC : Hid (∀ V, InPool V ts ks fs A0 A1 A2 → Calls Try.prog 140 #[.agg #[.int .i64 a, .int .i64 b, .int .i64 c, .int .i64 d, .int .i64 e], .agg #[.slice A0 ts.length c0, .slice A1 ks.length c1, .slice A2 fs.length c2, .int .i64 tn, .bool st], .int .i64 wk, .int .i64 x] V (GaveS [] V (cancelM a b c d e ts ks fs tn st wk x))) := hide (fun V hV => cancel_any a b c d e ts ks fs A0 A1 A2 c0 c1 c2 tn st wk x V ht hk hf hV)
  generalize cancelM a b c d e ts ks fs tn st wk x = o at hC ⊢
  go_enter Try.func106, Try.ntmps106
  go_wp2_with fail
  generalize hW : ((((w.alloc _).alloc _).alloc _).alloc _).alloc _ = W1
  have M := Sep.e5 hW
  clear hW
  go_call (hC.out _ (H.out.below M.below)) as r W2 ⟨B0, B1, B2, d0, d1, d2, rfl, g1⟩
  replace M := Sep.new M g1
  simp only [List.cons_append, List.nil_append] at M
  clear g1
  obtain ⟨tS, qS0, fS0, qS1, fS1⟩ := M.f2 3 rfl
  obtain ⟨tR, qR0, fR0, qR1, fR1, qR2, fR2, qR3, fR3, qR4, fR4⟩ := M.f5 4 rfl
  go_wp2_with fail
  clear tS qS0 fS0 qS1 fS1 tR qR0 fR0 qR1 fR1 qR2 fR2 qR3 fR3 qR4 fR4
  have N := M.gset5 4 rfl (.slice B0 o.ts.length d0) (.slice B1 o.ks.length d1) (.slice B2 o.fs.length d2) (.int .i64 o.tn) (.bool o.st)
  clear M
  obtain ⟨W3, eW, M⟩ := N
  rw [eW]
  clear eW
  simp only [List.set_cons_zero, List.set_cons_succ] at M
  have N := M.gset2 3 rfl (.int .i64 o.rp) (.int .i64 o.ou)
  clear M
  obtain ⟨W4, eW, M⟩ := N
  rw [eW]
  clear eW
  simp only [List.set_cons_zero, List.set_cons_succ] at M
  obtain ⟨tS, qS0, qS1⟩ := M.q2 3 rfl
  obtain ⟨tR, qR0, qR1, qR2, qR3, qR4⟩ := M.q5 4 rfl
  exact bodyPost_ret (v := .tuple #[.agg #[.slice B0 o.ts.length d0, .slice B1 o.ks.length d1, .slice B2 o.fs.length d2, .int .i64 o.tn, .bool o.st], .agg #[.int .i64 o.rp, .int .i64 o.ou]]) (by simp [results, Try.results106, go_sem, qR0, qR1, qR2, qR3, qR4, qS0, qS1]) rfl ⟨B0, B1, B2, d0, d1, d2, rfl, M.take 3⟩
end Go.Proofs.Ytgncjcnobojgbaa
