/- The model's l10Apply, call by call. Lists no longer than a million. -/
import Derived.Test.YtfkdfkoigojciaaGreatDoorQJ29
import Derived.Test.YtfkdfkoigojciaaGreatDoorQJ10

namespace Go.Proofs.YtfkdfkoigojciaaGreatDoor
open Go.RowKit
set_option linter.unusedVariables false
set_option maxRecDepth 100000
set_option maxHeartbeats 4000000 in
theorem apply_2 (a b c d e : Int) (ts : List T7) (ks : List Int) (fs : List F2) (A0 A1 A2 : Option Addr) (c0 c1 c2 : Nat) (tn : Int) (st : Bool) (wk x y : Int) (w : World) (ht : ts.length ≤ 1048576) (hk : ks.length ≤ 1048576) (hf : fs.length ≤ 1048576) (h : InPool w ts ks fs A0 A1 A2) :
 Calls Tryz.prog 115 #[.agg #[.int .i64 a, .int .i64 b, .int .i64 c, .int .i64 d, .int .i64 e], .agg #[.slice A0 ts.length c0, .slice A1 ks.length c1, .slice A2 fs.length c2, .int .i64 tn, .bool st], .int .i64 wk, .agg #[.int .i64 2, .int .i64 x, .int .i64 y]] w (GaveS [] w (takeM a b c d e ts ks fs tn st wk)) := by
 have H := hide h
 clear h
 have hC : Hid (∀ V, InPool V ts ks fs A0 A1 A2 → Calls Tryz.prog 17 #[.agg #[.int .i64 a, .int .i64 b, .int .i64 c, .int .i64 d, .int .i64 e], .agg #[.slice A0 ts.length c0, .slice A1 ks.length c1, .slice A2 fs.length c2, .int .i64 tn, .bool st], .int .i64 wk] V (GaveS [] V (takeM a b c d e ts ks fs tn st wk))) := hide (fun V hV => take_any a b c d e ts ks fs A0 A1 A2 c0 c1 c2 tn st wk  V ht hk hf hV)
 generalize takeM a b c d e ts ks fs tn st wk = o at hC ⊢
 go_enter Tryz.func115, Tryz.ntmps115
 go_wp2_with fail
 generalize hW : ((((w.alloc _).alloc _).alloc _).alloc _).alloc _ = W1
 have M := Sep.e5 hW
 clear hW
 go_call (hC.out _ (H.out.below M.below)) as r W2 ⟨B0, B1, B2, d0, d1, d2, rfl, g1⟩
 replace M := Sep.new M g1
 simp only [List.cons_append, List.nil_append] at M
 clear g1
 obtain ⟨tS, Ad, Al, Ac, Ah⟩ := M.f2 3 rfl
 obtain ⟨tR, Ag, Ai, Aa, Aj, Ae, An, Ab, Ak, Af, Am⟩ := M.f5 4 rfl
 go_wp2_with fail
 clear tS Ad Al Ac Ah tR Ag Ai Aa Aj Ae An Ab Ak Af Am
 have N := M.gset5 4 rfl (.slice B0 o.ts.length d0) (.slice B1 o.ks.length d1) (.slice B2 o.fs.length d2) (.int .i64 o.tn) (.bool o.st)
 clear M
 obtain ⟨W3, eW, M⟩ := N
 rw [eW]
 clear eW
 simp only [List.set_cons_zero, List.set_cons_succ] at M
 have N := M.gset2 3 rfl (.int .i64 o.rp) (.int .i64 o.ou)
 clear M
 obtain ⟨W4, eW, M⟩ := N
 rw [eW]
 clear eW
 simp only [List.set_cons_zero, List.set_cons_succ] at M
 obtain ⟨tS, Ad, Ac⟩ := M.q2 3 rfl
 obtain ⟨tR, Ag, Aa, Ae, Ab, Af⟩ := M.q5 4 rfl
 exact bodyPost_ret (by simp [results, Tryz.results115, go_sem, Ag, Aa, Ae, Ab, Af, Ad, Ac]) rfl ⟨B0, B1, B2, d0, d1, d2, rfl, M.take 3⟩
set_option maxHeartbeats 4000000 in
theorem apply_3 (a b c d e : Int) (ts : List T7) (ks : List Int) (fs : List F2) (A0 A1 A2 : Option Addr) (c0 c1 c2 : Nat) (tn : Int) (st : Bool) (wk x y : Int) (w : World) (ht : ts.length ≤ 1048576) (hk : ks.length ≤ 1048576) (hf : fs.length ≤ 1048576) (h : InPool w ts ks fs A0 A1 A2) :
 Calls Tryz.prog 115 #[.agg #[.int .i64 a, .int .i64 b, .int .i64 c, .int .i64 d, .int .i64 e], .agg #[.slice A0 ts.length c0, .slice A1 ks.length c1, .slice A2 fs.length c2, .int .i64 tn, .bool st], .int .i64 wk, .agg #[.int .i64 3, .int .i64 x, .int .i64 y]] w (GaveS [] w (yieldM a b c d e ts ks fs tn st wk)) := by
 have H := hide h
 clear h
 have hC : Hid (∀ V, InPool V ts ks fs A0 A1 A2 → Calls Tryz.prog 159 #[.agg #[.int .i64 a, .int .i64 b, .int .i64 c, .int .i64 d, .int .i64 e], .agg #[.slice A0 ts.length c0, .slice A1 ks.length c1, .slice A2 fs.length c2, .int .i64 tn, .bool st], .int .i64 wk] V (GaveS [] V (yieldM a b c d e ts ks fs tn st wk))) := hide (fun V hV => yield_any a b c d e ts ks fs A0 A1 A2 c0 c1 c2 tn st wk  V ht hk hf hV)
 generalize yieldM a b c d e ts ks fs tn st wk = o at hC ⊢
 go_enter Tryz.func115, Tryz.ntmps115
 go_wp2_with fail
 generalize hW : ((((w.alloc _).alloc _).alloc _).alloc _).alloc _ = W1
 have M := Sep.e5 hW
 clear hW
 go_call (hC.out _ (H.out.below M.below)) as r W2 ⟨B0, B1, B2, d0, d1, d2, rfl, g1⟩
 replace M := Sep.new M g1
 simp only [List.cons_append, List.nil_append] at M
 clear g1
 obtain ⟨tS, Ad, Al, Ac, Ah⟩ := M.f2 3 rfl
 obtain ⟨tR, Ag, Ai, Aa, Aj, Ae, An, Ab, Ak, Af, Am⟩ := M.f5 4 rfl
 go_wp2_with fail
 clear tS Ad Al Ac Ah tR Ag Ai Aa Aj Ae An Ab Ak Af Am
 have N := M.gset5 4 rfl (.slice B0 o.ts.length d0) (.slice B1 o.ks.length d1) (.slice B2 o.fs.length d2) (.int .i64 o.tn) (.bool o.st)
 clear M
 obtain ⟨W3, eW, M⟩ := N
 rw [eW]
 clear eW
 simp only [List.set_cons_zero, List.set_cons_succ] at M
 have N := M.gset2 3 rfl (.int .i64 o.rp) (.int .i64 o.ou)
 clear M
 obtain ⟨W4, eW, M⟩ := N
 rw [eW]
 clear eW
 simp only [List.set_cons_zero, List.set_cons_succ] at M
 obtain ⟨tS, Ad, Ac⟩ := M.q2 3 rfl
 obtain ⟨tR, Ag, Aa, Ae, Ab, Af⟩ := M.q5 4 rfl
 exact bodyPost_ret (by simp [results, Tryz.results115, go_sem, Ag, Aa, Ae, Ab, Af, Ad, Ac]) rfl ⟨B0, B1, B2, d0, d1, d2, rfl, M.take 3⟩
set_option maxHeartbeats 4000000 in
theorem apply_4 (a b c d e : Int) (ts : List T7) (ks : List Int) (fs : List F2) (A0 A1 A2 : Option Addr) (c0 c1 c2 : Nat) (tn : Int) (st : Bool) (wk x y : Int) (w : World) (ht : ts.length ≤ 1048576) (hk : ks.length ≤ 1048576) (hf : fs.length ≤ 1048576) (h : InPool w ts ks fs A0 A1 A2) :
 Calls Tryz.prog 115 #[.agg #[.int .i64 a, .int .i64 b, .int .i64 c, .int .i64 d, .int .i64 e], .agg #[.slice A0 ts.length c0, .slice A1 ks.length c1, .slice A2 fs.length c2, .int .i64 tn, .bool st], .int .i64 wk, .agg #[.int .i64 4, .int .i64 x, .int .i64 y]] w (GaveS [] w (end_M a b c d e ts ks fs tn st wk x)) := by
 have H := hide h
 clear h
 have hC : Hid (∀ V, InPool V ts ks fs A0 A1 A2 → Calls Tryz.prog 160 #[.agg #[.int .i64 a, .int .i64 b, .int .i64 c, .int .i64 d, .int .i64 e], .agg #[.slice A0 ts.length c0, .slice A1 ks.length c1, .slice A2 fs.length c2, .int .i64 tn, .bool st], .int .i64 wk, .int .i64 x] V (GaveS [] V (end_M a b c d e ts ks fs tn st wk x))) := hide (fun V hV => end__any a b c d e ts ks fs A0 A1 A2 c0 c1 c2 tn st wk x V ht hk hf hV)
 generalize end_M a b c d e ts ks fs tn st wk x = o at hC ⊢
 go_enter Tryz.func115, Tryz.ntmps115
 go_wp2_with fail
 generalize hW : ((((w.alloc _).alloc _).alloc _).alloc _).alloc _ = W1
 have M := Sep.e5 hW
 clear hW
 go_call (hC.out _ (H.out.below M.below)) as r W2 ⟨B0, B1, B2, d0, d1, d2, rfl, g1⟩
 replace M := Sep.new M g1
 simp only [List.cons_append, List.nil_append] at M
 clear g1
 obtain ⟨tS, Ad, Al, Ac, Ah⟩ := M.f2 3 rfl
 obtain ⟨tR, Ag, Ai, Aa, Aj, Ae, An, Ab, Ak, Af, Am⟩ := M.f5 4 rfl
 go_wp2_with fail
 clear tS Ad Al Ac Ah tR Ag Ai Aa Aj Ae An Ab Ak Af Am
 have N := M.gset5 4 rfl (.slice B0 o.ts.length d0) (.slice B1 o.ks.length d1) (.slice B2 o.fs.length d2) (.int .i64 o.tn) (.bool o.st)
 clear M
 obtain ⟨W3, eW, M⟩ := N
 rw [eW]
 clear eW
 simp only [List.set_cons_zero, List.set_cons_succ] at M
 have N := M.gset2 3 rfl (.int .i64 o.rp) (.int .i64 o.ou)
 clear M
 obtain ⟨W4, eW, M⟩ := N
 rw [eW]
 clear eW
 simp only [List.set_cons_zero, List.set_cons_succ] at M
 obtain ⟨tS, Ad, Ac⟩ := M.q2 3 rfl
 obtain ⟨tR, Ag, Aa, Ae, Ab, Af⟩ := M.q5 4 rfl
 exact bodyPost_ret (by simp [results, Tryz.results115, go_sem, Ag, Aa, Ae, Ab, Af, Ad, Ac]) rfl ⟨B0, B1, B2, d0, d1, d2, rfl, M.take 3⟩
set_option maxHeartbeats 4000000 in
theorem apply_5 (a b c d e : Int) (ts : List T7) (ks : List Int) (fs : List F2) (A0 A1 A2 : Option Addr) (c0 c1 c2 : Nat) (tn : Int) (st : Bool) (wk x y : Int) (w : World) (ht : ts.length ≤ 1048576) (hk : ks.length ≤ 1048576) (hf : fs.length ≤ 1048576) (h : InPool w ts ks fs A0 A1 A2) :
 Calls Tryz.prog 115 #[.agg #[.int .i64 a, .int .i64 b, .int .i64 c, .int .i64 d, .int .i64 e], .agg #[.slice A0 ts.length c0, .slice A1 ks.length c1, .slice A2 fs.length c2, .int .i64 tn, .bool st], .int .i64 wk, .agg #[.int .i64 5, .int .i64 x, .int .i64 y]] w (GaveS [] w (joinM a b c d e ts ks fs tn st wk x)) := by
 have H := hide h
 clear h
 have hC : Hid (∀ V, InPool V ts ks fs A0 A1 A2 → Calls Tryz.prog 27 #[.agg #[.int .i64 a, .int .i64 b, .int .i64 c, .int .i64 d, .int .i64 e], .agg #[.slice A0 ts.length c0, .slice A1 ks.length c1, .slice A2 fs.length c2, .int .i64 tn, .bool st], .int .i64 wk, .int .i64 x] V (GaveS [] V (joinM a b c d e ts ks fs tn st wk x))) := hide (fun V hV => join_any a b c d e ts ks fs A0 A1 A2 c0 c1 c2 tn st wk x V ht hk hf hV)
 generalize joinM a b c d e ts ks fs tn st wk x = o at hC ⊢
 go_enter Tryz.func115, Tryz.ntmps115
 go_wp2_with fail
 generalize hW : ((((w.alloc _).alloc _).alloc _).alloc _).alloc _ = W1
 have M := Sep.e5 hW
 clear hW
 go_call (hC.out _ (H.out.below M.below)) as r W2 ⟨B0, B1, B2, d0, d1, d2, rfl, g1⟩
 replace M := Sep.new M g1
 simp only [List.cons_append, List.nil_append] at M
 clear g1
 obtain ⟨tS, Ad, Al, Ac, Ah⟩ := M.f2 3 rfl
 obtain ⟨tR, Ag, Ai, Aa, Aj, Ae, An, Ab, Ak, Af, Am⟩ := M.f5 4 rfl
 go_wp2_with fail
 clear tS Ad Al Ac Ah tR Ag Ai Aa Aj Ae An Ab Ak Af Am
 have N := M.gset5 4 rfl (.slice B0 o.ts.length d0) (.slice B1 o.ks.length d1) (.slice B2 o.fs.length d2) (.int .i64 o.tn) (.bool o.st)
 clear M
 obtain ⟨W3, eW, M⟩ := N
 rw [eW]
 clear eW
 simp only [List.set_cons_zero, List.set_cons_succ] at M
 have N := M.gset2 3 rfl (.int .i64 o.rp) (.int .i64 o.ou)
 clear M
 obtain ⟨W4, eW, M⟩ := N
 rw [eW]
 clear eW
 simp only [List.set_cons_zero, List.set_cons_succ] at M
 obtain ⟨tS, Ad, Ac⟩ := M.q2 3 rfl
 obtain ⟨tR, Ag, Aa, Ae, Ab, Af⟩ := M.q5 4 rfl
 exact bodyPost_ret (by simp [results, Tryz.results115, go_sem, Ag, Aa, Ae, Ab, Af, Ad, Ac]) rfl ⟨B0, B1, B2, d0, d1, d2, rfl, M.take 3⟩
set_option maxHeartbeats 4000000 in
theorem apply_6 (a b c d e : Int) (ts : List T7) (ks : List Int) (fs : List F2) (A0 A1 A2 : Option Addr) (c0 c1 c2 : Nat) (tn : Int) (st : Bool) (wk x y : Int) (w : World) (ht : ts.length ≤ 1048576) (hk : ks.length ≤ 1048576) (hf : fs.length ≤ 1048576) (h : InPool w ts ks fs A0 A1 A2) :
 Calls Tryz.prog 115 #[.agg #[.int .i64 a, .int .i64 b, .int .i64 c, .int .i64 d, .int .i64 e], .agg #[.slice A0 ts.length c0, .slice A1 ks.length c1, .slice A2 fs.length c2, .int .i64 tn, .bool st], .int .i64 wk, .agg #[.int .i64 6, .int .i64 x, .int .i64 y]] w (GaveS [] w (cancelM a b c d e ts ks fs tn st wk x)) := by
 have H := hide h
 clear h
 have hC : Hid (∀ V, InPool V ts ks fs A0 A1 A2 → Calls Tryz.prog 28 #[.agg #[.int .i64 a, .int .i64 b, .int .i64 c, .int .i64 d, .int .i64 e], .agg #[.slice A0 ts.length c0, .slice A1 ks.length c1, .slice A2 fs.length c2, .int .i64 tn, .bool st], .int .i64 wk, .int .i64 x] V (GaveS [] V (cancelM a b c d e ts ks fs tn st wk x))) := hide (fun V hV => cancel_any a b c d e ts ks fs A0 A1 A2 c0 c1 c2 tn st wk x V ht hk hf hV)
 generalize cancelM a b c d e ts ks fs tn st wk x = o at hC ⊢
 go_enter Tryz.func115, Tryz.ntmps115
 go_wp2_with fail
 generalize hW : ((((w.alloc _).alloc _).alloc _).alloc _).alloc _ = W1
 have M := Sep.e5 hW
 clear hW
 go_call (hC.out _ (H.out.below M.below)) as r W2 ⟨B0, B1, B2, d0, d1, d2, rfl, g1⟩
 replace M := Sep.new M g1
 simp only [List.cons_append, List.nil_append] at M
 clear g1
 obtain ⟨tS, Ad, Al, Ac, Ah⟩ := M.f2 3 rfl
 obtain ⟨tR, Ag, Ai, Aa, Aj, Ae, An, Ab, Ak, Af, Am⟩ := M.f5 4 rfl
 go_wp2_with fail
 clear tS Ad Al Ac Ah tR Ag Ai Aa Aj Ae An Ab Ak Af Am
 have N := M.gset5 4 rfl (.slice B0 o.ts.length d0) (.slice B1 o.ks.length d1) (.slice B2 o.fs.length d2) (.int .i64 o.tn) (.bool o.st)
 clear M
 obtain ⟨W3, eW, M⟩ := N
 rw [eW]
 clear eW
 simp only [List.set_cons_zero, List.set_cons_succ] at M
 have N := M.gset2 3 rfl (.int .i64 o.rp) (.int .i64 o.ou)
 clear M
 obtain ⟨W4, eW, M⟩ := N
 rw [eW]
 clear eW
 simp only [List.set_cons_zero, List.set_cons_succ] at M
 obtain ⟨tS, Ad, Ac⟩ := M.q2 3 rfl
 obtain ⟨tR, Ag, Aa, Ae, Ab, Af⟩ := M.q5 4 rfl
 exact bodyPost_ret (by simp [results, Tryz.results115, go_sem, Ag, Aa, Ae, Ab, Af, Ad, Ac]) rfl ⟨B0, B1, B2, d0, d1, d2, rfl, M.take 3⟩
set_option maxRecDepth 100000
set_option maxHeartbeats 4000000 in
theorem apply_7 (a b c d e : Int) (ts : List T7) (ks : List Int) (fs : List F2) (A0 A1 A2 : Option Addr) (c0 c1 c2 : Nat) (tn : Int) (st : Bool) (wk x y : Int) (w : World) (ht : ts.length ≤ 1048576) (hk : ks.length ≤ 1048576) (hf : fs.length ≤ 1048576) (h : InPool w ts ks fs A0 A1 A2) :
 Calls Tryz.prog 115 #[.agg #[.int .i64 a, .int .i64 b, .int .i64 c, .int .i64 d, .int .i64 e], .agg #[.slice A0 ts.length c0, .slice A1 ks.length c1, .slice A2 fs.length c2, .int .i64 tn, .bool st], .int .i64 wk, .agg #[.int .i64 7, .int .i64 x, .int .i64 y]] w (GaveS [] w (levelM a b c d e ts ks fs tn st wk x y)) := by
 have H := hide h
 clear h
 have hC : Hid (∀ V, InPool V ts ks fs A0 A1 A2 → Calls Tryz.prog 25 #[.agg #[.int .i64 a, .int .i64 b, .int .i64 c, .int .i64 d, .int .i64 e], .agg #[.slice A0 ts.length c0, .slice A1 ks.length c1, .slice A2 fs.length c2, .int .i64 tn, .bool st], .int .i64 wk, .int .i64 x, .int .i64 y] V (GaveS [] V (levelM a b c d e ts ks fs tn st wk x y))) := hide (fun V hV => level_any a b c d e ts ks fs A0 A1 A2 c0 c1 c2 tn st wk x y V ht hk hf hV)
 generalize levelM a b c d e ts ks fs tn st wk x y = o at hC ⊢
 go_enter Tryz.func115, Tryz.ntmps115
 go_wp2_with fail
 generalize hW : ((((w.alloc _).alloc _).alloc _).alloc _).alloc _ = W1
 have M := Sep.e5 hW
 clear hW
 go_call (hC.out _ (H.out.below M.below)) as r W2 ⟨B0, B1, B2, d0, d1, d2, rfl, g1⟩
 replace M := Sep.new M g1
 simp only [List.cons_append, List.nil_append] at M
 clear g1
 obtain ⟨tS, Ad, Al, Ac, Ah⟩ := M.f2 3 rfl
 obtain ⟨tR, Ag, Ai, Aa, Aj, Ae, An, Ab, Ak, Af, Am⟩ := M.f5 4 rfl
 go_wp2_with fail
 clear tS Ad Al Ac Ah tR Ag Ai Aa Aj Ae An Ab Ak Af Am
 have N := M.gset5 4 rfl (.slice B0 o.ts.length d0) (.slice B1 o.ks.length d1) (.slice B2 o.fs.length d2) (.int .i64 o.tn) (.bool o.st)
 clear M
 obtain ⟨W3, eW, M⟩ := N
 rw [eW]
 clear eW
 simp only [List.set_cons_zero, List.set_cons_succ] at M
 have N := M.gset2 3 rfl (.int .i64 o.rp) (.int .i64 o.ou)
 clear M
 obtain ⟨W4, eW, M⟩ := N
 rw [eW]
 clear eW
 simp only [List.set_cons_zero, List.set_cons_succ] at M
 obtain ⟨tS, Ad, Ac⟩ := M.q2 3 rfl
 obtain ⟨tR, Ag, Aa, Ae, Ab, Af⟩ := M.q5 4 rfl
 exact bodyPost_ret (by simp [results, Tryz.results115, go_sem, Ag, Aa, Ae, Ab, Af, Ad, Ac]) rfl ⟨B0, B1, B2, d0, d1, d2, rfl, M.take 3⟩
set_option maxHeartbeats 4000000 in
theorem apply_8 (a b c d e : Int) (ts : List T7) (ks : List Int) (fs : List F2) (A0 A1 A2 : Option Addr) (c0 c1 c2 : Nat) (tn : Int) (st : Bool) (wk x y : Int) (w : World) (ht : ts.length ≤ 1048576) (hk : ks.length ≤ 1048576) (hf : fs.length ≤ 1048576) (h : InPool w ts ks fs A0 A1 A2) :
 Calls Tryz.prog 115 #[.agg #[.int .i64 a, .int .i64 b, .int .i64 c, .int .i64 d, .int .i64 e], .agg #[.slice A0 ts.length c0, .slice A1 ks.length c1, .slice A2 fs.length c2, .int .i64 tn, .bool st], .int .i64 wk, .agg #[.int .i64 8, .int .i64 x, .int .i64 y]] w (GaveS [] w (upM a b c d e ts ks fs tn st wk x)) := by
 have H := hide h
 clear h
 have hC : Hid (∀ V, InPool V ts ks fs A0 A1 A2 → Calls Tryz.prog 39 #[.agg #[.int .i64 a, .int .i64 b, .int .i64 c, .int .i64 d, .int .i64 e], .agg #[.slice A0 ts.length c0, .slice A1 ks.length c1, .slice A2 fs.length c2, .int .i64 tn, .bool st], .int .i64 wk, .int .i64 x] V (GaveS [] V (upM a b c d e ts ks fs tn st wk x))) := hide (fun V hV => up_any a b c d e ts ks fs A0 A1 A2 c0 c1 c2 tn st wk x V ht hk hf hV)
 generalize upM a b c d e ts ks fs tn st wk x = o at hC ⊢
 go_enter Tryz.func115, Tryz.ntmps115
 go_wp2_with fail
 generalize hW : ((((w.alloc _).alloc _).alloc _).alloc _).alloc _ = W1
 have M := Sep.e5 hW
 clear hW
 go_call (hC.out _ (H.out.below M.below)) as r W2 ⟨B0, B1, B2, d0, d1, d2, rfl, g1⟩
 replace M := Sep.new M g1
 simp only [List.cons_append, List.nil_append] at M
 clear g1
 obtain ⟨tS, Ad, Al, Ac, Ah⟩ := M.f2 3 rfl
 obtain ⟨tR, Ag, Ai, Aa, Aj, Ae, An, Ab, Ak, Af, Am⟩ := M.f5 4 rfl
 go_wp2_with fail
 clear tS Ad Al Ac Ah tR Ag Ai Aa Aj Ae An Ab Ak Af Am
 have N := M.gset5 4 rfl (.slice B0 o.ts.length d0) (.slice B1 o.ks.length d1) (.slice B2 o.fs.length d2) (.int .i64 o.tn) (.bool o.st)
 clear M
 obtain ⟨W3, eW, M⟩ := N
 rw [eW]
 clear eW
 simp only [List.set_cons_zero, List.set_cons_succ] at M
 have N := M.gset2 3 rfl (.int .i64 o.rp) (.int .i64 o.ou)
 clear M
 obtain ⟨W4, eW, M⟩ := N
 rw [eW]
 clear eW
 simp only [List.set_cons_zero, List.set_cons_succ] at M
 obtain ⟨tS, Ad, Ac⟩ := M.q2 3 rfl
 obtain ⟨tR, Ag, Aa, Ae, Ab, Af⟩ := M.q5 4 rfl
 exact bodyPost_ret (by simp [results, Tryz.results115, go_sem, Ag, Aa, Ae, Ab, Af, Ad, Ac]) rfl ⟨B0, B1, B2, d0, d1, d2, rfl, M.take 3⟩
set_option maxHeartbeats 4000000 in
theorem apply_9 (a b c d e : Int) (ts : List T7) (ks : List Int) (fs : List F2) (A0 A1 A2 : Option Addr) (c0 c1 c2 : Nat) (tn : Int) (st : Bool) (wk x y : Int) (w : World) (ht : ts.length ≤ 1048576) (hk : ks.length ≤ 1048576) (hf : fs.length ≤ 1048576) (h : InPool w ts ks fs A0 A1 A2) :
 Calls Tryz.prog 115 #[.agg #[.int .i64 a, .int .i64 b, .int .i64 c, .int .i64 d, .int .i64 e], .agg #[.slice A0 ts.length c0, .slice A1 ks.length c1, .slice A2 fs.length c2, .int .i64 tn, .bool st], .int .i64 wk, .agg #[.int .i64 9, .int .i64 x, .int .i64 y]] w (GaveS [] w (downM a b c d e ts ks fs tn st wk x)) := by
 have H := hide h
 clear h
 have hC : Hid (∀ V, InPool V ts ks fs A0 A1 A2 → Calls Tryz.prog 47 #[.agg #[.int .i64 a, .int .i64 b, .int .i64 c, .int .i64 d, .int .i64 e], .agg #[.slice A0 ts.length c0, .slice A1 ks.length c1, .slice A2 fs.length c2, .int .i64 tn, .bool st], .int .i64 wk, .int .i64 x] V (GaveS [] V (downM a b c d e ts ks fs tn st wk x))) := hide (fun V hV => down_any a b c d e ts ks fs A0 A1 A2 c0 c1 c2 tn st wk x V ht hk hf hV)
 generalize downM a b c d e ts ks fs tn st wk x = o at hC ⊢
 go_enter Tryz.func115, Tryz.ntmps115
 go_wp2_with fail
 generalize hW : ((((w.alloc _).alloc _).alloc _).alloc _).alloc _ = W1
 have M := Sep.e5 hW
 clear hW
 go_call (hC.out _ (H.out.below M.below)) as r W2 ⟨B0, B1, B2, d0, d1, d2, rfl, g1⟩
 replace M := Sep.new M g1
 simp only [List.cons_append, List.nil_append] at M
 clear g1
 obtain ⟨tS, Ad, Al, Ac, Ah⟩ := M.f2 3 rfl
 obtain ⟨tR, Ag, Ai, Aa, Aj, Ae, An, Ab, Ak, Af, Am⟩ := M.f5 4 rfl
 go_wp2_with fail
 clear tS Ad Al Ac Ah tR Ag Ai Aa Aj Ae An Ab Ak Af Am
 have N := M.gset5 4 rfl (.slice B0 o.ts.length d0) (.slice B1 o.ks.length d1) (.slice B2 o.fs.length d2) (.int .i64 o.tn) (.bool o.st)
 clear M
 obtain ⟨W3, eW, M⟩ := N
 rw [eW]
 clear eW
 simp only [List.set_cons_zero, List.set_cons_succ] at M
 have N := M.gset2 3 rfl (.int .i64 o.rp) (.int .i64 o.ou)
 clear M
 obtain ⟨W4, eW, M⟩ := N
 rw [eW]
 clear eW
 simp only [List.set_cons_zero, List.set_cons_succ] at M
 obtain ⟨tS, Ad, Ac⟩ := M.q2 3 rfl
 obtain ⟨tR, Ag, Aa, Ae, Ab, Af⟩ := M.q5 4 rfl
 exact bodyPost_ret (by simp [results, Tryz.results115, go_sem, Ag, Aa, Ae, Ab, Af, Ad, Ac]) rfl ⟨B0, B1, B2, d0, d1, d2, rfl, M.take 3⟩
set_option maxHeartbeats 4000000 in
theorem apply_10 (a b c d e : Int) (ts : List T7) (ks : List Int) (fs : List F2) (A0 A1 A2 : Option Addr) (c0 c1 c2 : Nat) (tn : Int) (st : Bool) (wk x y : Int) (w : World) (ht : ts.length ≤ 1048576) (hk : ks.length ≤ 1048576) (hf : fs.length ≤ 1048576) (h : InPool w ts ks fs A0 A1 A2) :
 Calls Tryz.prog 115 #[.agg #[.int .i64 a, .int .i64 b, .int .i64 c, .int .i64 d, .int .i64 e], .agg #[.slice A0 ts.length c0, .slice A1 ks.length c1, .slice A2 fs.length c2, .int .i64 tn, .bool st], .int .i64 wk, .agg #[.int .i64 10, .int .i64 x, .int .i64 y]] w (GaveS [] w (setM a b c d e ts ks fs tn st wk x y)) := by
 have H := hide h
 clear h
 have hC : Hid (∀ V, InPool V ts ks fs A0 A1 A2 → Calls Tryz.prog 161 #[.agg #[.int .i64 a, .int .i64 b, .int .i64 c, .int .i64 d, .int .i64 e], .agg #[.slice A0 ts.length c0, .slice A1 ks.length c1, .slice A2 fs.length c2, .int .i64 tn, .bool st], .int .i64 wk, .int .i64 x, .int .i64 y] V (GaveS [] V (setM a b c d e ts ks fs tn st wk x y))) := hide (fun V hV => set_any a b c d e ts ks fs A0 A1 A2 c0 c1 c2 tn st wk x y V ht hk hf hV)
 generalize setM a b c d e ts ks fs tn st wk x y = o at hC ⊢
 go_enter Tryz.func115, Tryz.ntmps115
 go_wp2_with fail
 generalize hW : ((((w.alloc _).alloc _).alloc _).alloc _).alloc _ = W1
 have M := Sep.e5 hW
 clear hW
 go_call (hC.out _ (H.out.below M.below)) as r W2 ⟨B0, B1, B2, d0, d1, d2, rfl, g1⟩
 replace M := Sep.new M g1
 simp only [List.cons_append, List.nil_append] at M
 clear g1
 obtain ⟨tS, Ad, Al, Ac, Ah⟩ := M.f2 3 rfl
 obtain ⟨tR, Ag, Ai, Aa, Aj, Ae, An, Ab, Ak, Af, Am⟩ := M.f5 4 rfl
 go_wp2_with fail
 clear tS Ad Al Ac Ah tR Ag Ai Aa Aj Ae An Ab Ak Af Am
 have N := M.gset5 4 rfl (.slice B0 o.ts.length d0) (.slice B1 o.ks.length d1) (.slice B2 o.fs.length d2) (.int .i64 o.tn) (.bool o.st)
 clear M
 obtain ⟨W3, eW, M⟩ := N
 rw [eW]
 clear eW
 simp only [List.set_cons_zero, List.set_cons_succ] at M
 have N := M.gset2 3 rfl (.int .i64 o.rp) (.int .i64 o.ou)
 clear M
 obtain ⟨W4, eW, M⟩ := N
 rw [eW]
 clear eW
 simp only [List.set_cons_zero, List.set_cons_succ] at M
 obtain ⟨tS, Ad, Ac⟩ := M.q2 3 rfl
 obtain ⟨tR, Ag, Aa, Ae, Ab, Af⟩ := M.q5 4 rfl
 exact bodyPost_ret (by simp [results, Tryz.results115, go_sem, Ag, Aa, Ae, Ab, Af, Ad, Ac]) rfl ⟨B0, B1, B2, d0, d1, d2, rfl, M.take 3⟩
set_option maxHeartbeats 4000000 in
theorem apply_11 (a b c d e : Int) (ts : List T7) (ks : List Int) (fs : List F2) (A0 A1 A2 : Option Addr) (c0 c1 c2 : Nat) (tn : Int) (st : Bool) (wk x y : Int) (w : World) (ht : ts.length ≤ 1048576) (hk : ks.length ≤ 1048576) (hf : fs.length ≤ 1048576) (h : InPool w ts ks fs A0 A1 A2) :
 Calls Tryz.prog 115 #[.agg #[.int .i64 a, .int .i64 b, .int .i64 c, .int .i64 d, .int .i64 e], .agg #[.slice A0 ts.length c0, .slice A1 ks.length c1, .slice A2 fs.length c2, .int .i64 tn, .bool st], .int .i64 wk, .agg #[.int .i64 11, .int .i64 x, .int .i64 y]] w (GaveS [] w (gotM a b c d e ts ks fs tn st wk x)) := by
 have H := hide h
 clear h
 have hC : Hid (∀ V, InPool V ts ks fs A0 A1 A2 → Calls Tryz.prog 162 #[.agg #[.int .i64 a, .int .i64 b, .int .i64 c, .int .i64 d, .int .i64 e], .agg #[.slice A0 ts.length c0, .slice A1 ks.length c1, .slice A2 fs.length c2, .int .i64 tn, .bool st], .int .i64 wk, .int .i64 x] V (GaveS [] V (gotM a b c d e ts ks fs tn st wk x))) := hide (fun V hV => got_any a b c d e ts ks fs A0 A1 A2 c0 c1 c2 tn st wk x V ht hk hf hV)
 generalize gotM a b c d e ts ks fs tn st wk x = o at hC ⊢
 go_enter Tryz.func115, Tryz.ntmps115
 go_wp2_with fail
 generalize hW : ((((w.alloc _).alloc _).alloc _).alloc _).alloc _ = W1
 have M := Sep.e5 hW
 clear hW
 go_call (hC.out _ (H.out.below M.below)) as r W2 ⟨B0, B1, B2, d0, d1, d2, rfl, g1⟩
 replace M := Sep.new M g1
 simp only [List.cons_append, List.nil_append] at M
 clear g1
 obtain ⟨tS, Ad, Al, Ac, Ah⟩ := M.f2 3 rfl
 obtain ⟨tR, Ag, Ai, Aa, Aj, Ae, An, Ab, Ak, Af, Am⟩ := M.f5 4 rfl
 go_wp2_with fail
 clear tS Ad Al Ac Ah tR Ag Ai Aa Aj Ae An Ab Ak Af Am
 have N := M.gset5 4 rfl (.slice B0 o.ts.length d0) (.slice B1 o.ks.length d1) (.slice B2 o.fs.length d2) (.int .i64 o.tn) (.bool o.st)
 clear M
 obtain ⟨W3, eW, M⟩ := N
 rw [eW]
 clear eW
 simp only [List.set_cons_zero, List.set_cons_succ] at M
 have N := M.gset2 3 rfl (.int .i64 o.rp) (.int .i64 o.ou)
 clear M
 obtain ⟨W4, eW, M⟩ := N
 rw [eW]
 clear eW
 simp only [List.set_cons_zero, List.set_cons_succ] at M
 obtain ⟨tS, Ad, Ac⟩ := M.q2 3 rfl
 obtain ⟨tR, Ag, Aa, Ae, Ab, Af⟩ := M.q5 4 rfl
 exact bodyPost_ret (by simp [results, Tryz.results115, go_sem, Ag, Aa, Ae, Ab, Af, Ad, Ac]) rfl ⟨B0, B1, B2, d0, d1, d2, rfl, M.take 3⟩
set_option maxHeartbeats 4000000 in
theorem apply_12 (a b c d e : Int) (ts : List T7) (ks : List Int) (fs : List F2) (A0 A1 A2 : Option Addr) (c0 c1 c2 : Nat) (tn : Int) (st : Bool) (wk x y : Int) (w : World) (ht : ts.length ≤ 1048576) (hk : ks.length ≤ 1048576) (hf : fs.length ≤ 1048576) (h : InPool w ts ks fs A0 A1 A2) :
 Calls Tryz.prog 115 #[.agg #[.int .i64 a, .int .i64 b, .int .i64 c, .int .i64 d, .int .i64 e], .agg #[.slice A0 ts.length c0, .slice A1 ks.length c1, .slice A2 fs.length c2, .int .i64 tn, .bool st], .int .i64 wk, .agg #[.int .i64 12, .int .i64 x, .int .i64 y]] w (GaveS [] w (stopM a b c d e ts ks fs tn st wk)) := by
 have H := hide h
 clear h
 have hC : Hid (∀ V, InPool V ts ks fs A0 A1 A2 → Calls Tryz.prog 163 #[.agg #[.int .i64 a, .int .i64 b, .int .i64 c, .int .i64 d, .int .i64 e], .agg #[.slice A0 ts.length c0, .slice A1 ks.length c1, .slice A2 fs.length c2, .int .i64 tn, .bool st], .int .i64 wk] V (GaveS [] V (stopM a b c d e ts ks fs tn st wk))) := hide (fun V hV => stop_any a b c d e ts ks fs A0 A1 A2 c0 c1 c2 tn st wk  V ht hk hf hV)
 generalize stopM a b c d e ts ks fs tn st wk = o at hC ⊢
 go_enter Tryz.func115, Tryz.ntmps115
 go_wp2_with fail
 generalize hW : ((((w.alloc _).alloc _).alloc _).alloc _).alloc _ = W1
 have M := Sep.e5 hW
 clear hW
 go_call (hC.out _ (H.out.below M.below)) as r W2 ⟨B0, B1, B2, d0, d1, d2, rfl, g1⟩
 replace M := Sep.new M g1
 simp only [List.cons_append, List.nil_append] at M
 clear g1
 obtain ⟨tS, Ad, Al, Ac, Ah⟩ := M.f2 3 rfl
 obtain ⟨tR, Ag, Ai, Aa, Aj, Ae, An, Ab, Ak, Af, Am⟩ := M.f5 4 rfl
 go_wp2_with fail
 clear tS Ad Al Ac Ah tR Ag Ai Aa Aj Ae An Ab Ak Af Am
 have N := M.gset5 4 rfl (.slice B0 o.ts.length d0) (.slice B1 o.ks.length d1) (.slice B2 o.fs.length d2) (.int .i64 o.tn) (.bool o.st)
 clear M
 obtain ⟨W3, eW, M⟩ := N
 rw [eW]
 clear eW
 simp only [List.set_cons_zero, List.set_cons_succ] at M
 have N := M.gset2 3 rfl (.int .i64 o.rp) (.int .i64 o.ou)
 clear M
 obtain ⟨W4, eW, M⟩ := N
 rw [eW]
 clear eW
 simp only [List.set_cons_zero, List.set_cons_succ] at M
 obtain ⟨tS, Ad, Ac⟩ := M.q2 3 rfl
 obtain ⟨tR, Ag, Aa, Ae, Ab, Af⟩ := M.q5 4 rfl
 exact bodyPost_ret (by simp [results, Tryz.results115, go_sem, Ag, Aa, Ae, Ab, Af, Ad, Ac]) rfl ⟨B0, B1, B2, d0, d1, d2, rfl, M.take 3⟩
end Go.Proofs.YtfkdfkoigojciaaGreatDoor
