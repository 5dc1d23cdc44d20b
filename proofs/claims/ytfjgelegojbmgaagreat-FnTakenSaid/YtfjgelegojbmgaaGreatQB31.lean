/- The model's l10Apply, call by call. Lists no longer than a million. -/
import Derived.Test.YtfjgelegojbmgaaGreatQB29
import Derived.Test.YtfjgelegojbmgaaGreatQB30
import Derived.Test.YtfjgelegojbmgaaGreatQB11

namespace Go.Proofs.YtfjgelegojbmgaaGreat
open Go.RowKit
set_option linter.unusedVariables false
def spawnM (a b c d e : Int) (ts : List T7) (ks : List Int) (fs : List F2) (tn : Int) (st : Bool) (wk : Int) (lv : Int) : OutP :=
 if mayB a b c d e ts ks fs tn wk = true then
  if levelB a b c d e lv = true then
   if st = true then noO (poolB a b c d e ts ks fs tn) ts ks fs tn st 6
   else if b ≤ ts.length then noO (poolB a b c d e ts ks fs tn) ts ks fs tn st 4
   else doneO (poolB a b c d e (ts ++ [⟨1, lv, -1, 0, 0, 0, tn⟩]) ks fs (tn + 1)) ts ks fs tn st (ts ++ [⟨1, lv, -1, 0, 0, 0, tn⟩]) ks fs (tn + 1) st 1 (ts.length : Nat)
  else noO (poolB a b c d e ts ks fs tn) ts ks fs tn st 8
 else noO (poolB a b c d e ts ks fs tn) ts ks fs tn st 8
theorem spawn_any (a b c d e : Int) (ts : List T7) (ks : List Int) (fs : List F2) (A0 A1 A2 : Option Addr) (c0 c1 c2 : Nat) (tn : Int) (st : Bool) (wk : Int) (lv : Int) (w : World) (ht : ts.length ≤ 1048576) (hk : ks.length ≤ 1048576) (hf : fs.length ≤ 1048576) (h : InPool w ts ks fs A0 A1 A2) :
 Calls Tryz.prog 33 #[.agg #[.int .i64 a, .int .i64 b, .int .i64 c, .int .i64 d, .int .i64 e], .agg #[.slice A0 ts.length c0, .slice A1 ks.length c1, .slice A2 fs.length c2, .int .i64 tn, .bool st], .int .i64 wk, .int .i64 lv] w (GaveS [] w (spawnM a b c d e ts ks fs tn st wk lv)) := by
 unfold spawnM
 split
 ·rename_i hm
  split
  ·rename_i hl
   cases st
   ·simp only [Bool.false_eq_true, if_false]
    split
    ·rename_i hb; exact spawned_full a b c d e ts ks fs A0 A1 A2 c0 c1 c2 tn wk lv w ht hk hf h hm hl hb
    ·rename_i hb; exact spawned_main a b c d e ts ks fs A0 A1 A2 c0 c1 c2 tn wk lv w ht hk hf h hm hl hb
   ·exact spawned_stop a b c d e ts ks fs A0 A1 A2 c0 c1 c2 tn wk lv w ht hk hf h hm hl
  ·rename_i hl; exact spawned_lev a b c d e ts ks fs A0 A1 A2 c0 c1 c2 tn st wk lv w ht hk hf h hm (by simpa using hl)
 ·rename_i hm; exact spawned_may a b c d e ts ks fs A0 A1 A2 c0 c1 c2 tn st wk lv w ht hk hf h (by simpa using hm)
set_option maxRecDepth 100000 in
set_option maxHeartbeats 4000000 in
theorem apply_1 (a b c d e : Int) (ts : List T7) (ks : List Int) (fs : List F2) (A0 A1 A2 : Option Addr) (c0 c1 c2 : Nat) (tn : Int) (st : Bool) (wk x y : Int) (w : World) (ht : ts.length ≤ 1048576) (hk : ks.length ≤ 1048576) (hf : fs.length ≤ 1048576) (h : InPool w ts ks fs A0 A1 A2) :
 Calls Tryz.prog 108 #[.agg #[.int .i64 a, .int .i64 b, .int .i64 c, .int .i64 d, .int .i64 e], .agg #[.slice A0 ts.length c0, .slice A1 ks.length c1, .slice A2 fs.length c2, .int .i64 tn, .bool st], .int .i64 wk, .agg #[.int .i64 1, .int .i64 x, .int .i64 y]] w (GaveS [] w (spawnM a b c d e ts ks fs tn st wk x)) := by
 have H := hide h
 clear h
 have hC : Hid (∀ V, InPool V ts ks fs A0 A1 A2 → Calls Tryz.prog 33 #[.agg #[.int .i64 a, .int .i64 b, .int .i64 c, .int .i64 d, .int .i64 e], .agg #[.slice A0 ts.length c0, .slice A1 ks.length c1, .slice A2 fs.length c2, .int .i64 tn, .bool st], .int .i64 wk, .int .i64 x] V (GaveS [] V (spawnM a b c d e ts ks fs tn st wk x))) := hide (fun V hV => spawn_any a b c d e ts ks fs A0 A1 A2 c0 c1 c2 tn st wk x V ht hk hf hV)
 generalize spawnM a b c d e ts ks fs tn st wk x = o at hC ⊢
 go_enter Tryz.func108, Tryz.ntmps108
 go_wp2_with fail
 generalize hW : ((((w.alloc _).alloc _).alloc _).alloc _).alloc _ = W1
 have M := Sep.e5 hW
 clear hW
 go_call (hC.out _ (H.out.below M.below)) as r W2 ⟨B0, B1, B2, d0, d1, d2, rfl, g1⟩
 replace M := Sep.new M g1
 simp only [List.cons_append, List.nil_append] at M
 clear g1
 obtain ⟨tS, Ac, Ai, Aa, Ah⟩ := M.f2 3 rfl
 obtain ⟨tR, Ae, Al, Ag, An, Ab, Ak, Af, Am, Ad, Aj⟩ := M.f5 4 rfl
 go_wp2_with fail
 clear tS Ac Ai Aa Ah tR Ae Al Ag An Ab Ak Af Am Ad Aj
 have N := M.gset5 4 rfl (.slice B0 o.ts.length d0) (.slice B1 o.ks.length d1) (.slice B2 o.fs.length d2) (.int .i64 o.tn) (.bool o.st)
 clear M
 obtain ⟨W3, eW, M⟩ := N
 rw [eW]
 clear eW
 simp only [List.set_cons_zero, List.set_cons_succ] at M
 have N := M.gset2 3 rfl (.int .i64 o.rp) (.int .i64 o.ou)
 clear M
 obtain ⟨W4, eW, M⟩ := N
 rw [eW]
 clear eW
 simp only [List.set_cons_zero, List.set_cons_succ] at M
 obtain ⟨tS, Ac, Aa⟩ := M.q2 3 rfl
 obtain ⟨tR, Ae, Ag, Ab, Af, Ad⟩ := M.q5 4 rfl
 exact bodyPost_ret (by simp [results, Tryz.results108, go_sem, Ae, Ag, Ab, Af, Ad, Ac, Aa]) rfl ⟨B0, B1, B2, d0, d1, d2, rfl, M.take 3⟩
set_option maxRecDepth 100000
set_option maxHeartbeats 4000000 in
theorem apply_2 (a b c d e : Int) (ts : List T7) (ks : List Int) (fs : List F2) (A0 A1 A2 : Option Addr) (c0 c1 c2 : Nat) (tn : Int) (st : Bool) (wk x y : Int) (w : World) (ht : ts.length ≤ 1048576) (hk : ks.length ≤ 1048576) (hf : fs.length ≤ 1048576) (h : InPool w ts ks fs A0 A1 A2) :
 Calls Tryz.prog 108 #[.agg #[.int .i64 a, .int .i64 b, .int .i64 c, .int .i64 d, .int .i64 e], .agg #[.slice A0 ts.length c0, .slice A1 ks.length c1, .slice A2 fs.length c2, .int .i64 tn, .bool st], .int .i64 wk, .agg #[.int .i64 2, .int .i64 x, .int .i64 y]] w (GaveS [] w (takeM a b c d e ts ks fs tn st wk)) := by
 have H := hide h
 clear h
 have hC : Hid (∀ V, InPool V ts ks fs A0 A1 A2 → Calls Tryz.prog 29 #[.agg #[.int .i64 a, .int .i64 b, .int .i64 c, .int .i64 d, .int .i64 e], .agg #[.slice A0 ts.length c0, .slice A1 ks.length c1, .slice A2 fs.length c2, .int .i64 tn, .bool st], .int .i64 wk] V (GaveS [] V (takeM a b c d e ts ks fs tn st wk))) := hide (fun V hV => take_any a b c d e ts ks fs A0 A1 A2 c0 c1 c2 tn st wk  V ht hk hf hV)
 generalize takeM a b c d e ts ks fs tn st wk = o at hC ⊢
 go_enter Tryz.func108, Tryz.ntmps108
 go_wp2_with fail
 generalize hW : ((((w.alloc _).alloc _).alloc _).alloc _).alloc _ = W1
 have M := Sep.e5 hW
 clear hW
 go_call (hC.out _ (H.out.below M.below)) as r W2 ⟨B0, B1, B2, d0, d1, d2, rfl, g1⟩
 replace M := Sep.new M g1
 simp only [List.cons_append, List.nil_append] at M
 clear g1
 obtain ⟨tS, Ac, Ai, Aa, Ah⟩ := M.f2 3 rfl
 obtain ⟨tR, Ae, Al, Ag, An, Ab, Ak, Af, Am, Ad, Aj⟩ := M.f5 4 rfl
 go_wp2_with fail
 clear tS Ac Ai Aa Ah tR Ae Al Ag An Ab Ak Af Am Ad Aj
 have N := M.gset5 4 rfl (.slice B0 o.ts.length d0) (.slice B1 o.ks.length d1) (.slice B2 o.fs.length d2) (.int .i64 o.tn) (.bool o.st)
 clear M
 obtain ⟨W3, eW, M⟩ := N
 rw [eW]
 clear eW
 simp only [List.set_cons_zero, List.set_cons_succ] at M
 have N := M.gset2 3 rfl (.int .i64 o.rp) (.int .i64 o.ou)
 clear M
 obtain ⟨W4, eW, M⟩ := N
 rw [eW]
 clear eW
 simp only [List.set_cons_zero, List.set_cons_succ] at M
 obtain ⟨tS, Ac, Aa⟩ := M.q2 3 rfl
 obtain ⟨tR, Ae, Ag, Ab, Af, Ad⟩ := M.q5 4 rfl
 exact bodyPost_ret (by simp [results, Tryz.results108, go_sem, Ae, Ag, Ab, Af, Ad, Ac, Aa]) rfl ⟨B0, B1, B2, d0, d1, d2, rfl, M.take 3⟩
set_option maxHeartbeats 4000000 in
theorem apply_3 (a b c d e : Int) (ts : List T7) (ks : List Int) (fs : List F2) (A0 A1 A2 : Option Addr) (c0 c1 c2 : Nat) (tn : Int) (st : Bool) (wk x y : Int) (w : World) (ht : ts.length ≤ 1048576) (hk : ks.length ≤ 1048576) (hf : fs.length ≤ 1048576) (h : InPool w ts ks fs A0 A1 A2) :
 Calls Tryz.prog 108 #[.agg #[.int .i64 a, .int .i64 b, .int .i64 c, .int .i64 d, .int .i64 e], .agg #[.slice A0 ts.length c0, .slice A1 ks.length c1, .slice A2 fs.length c2, .int .i64 tn, .bool st], .int .i64 wk, .agg #[.int .i64 3, .int .i64 x, .int .i64 y]] w (GaveS [] w (yieldM a b c d e ts ks fs tn st wk)) := by
 have H := hide h
 clear h
 have hC : Hid (∀ V, InPool V ts ks fs A0 A1 A2 → Calls Tryz.prog 131 #[.agg #[.int .i64 a, .int .i64 b, .int .i64 c, .int .i64 d, .int .i64 e], .agg #[.slice A0 ts.length c0, .slice A1 ks.length c1, .slice A2 fs.length c2, .int .i64 tn, .bool st], .int .i64 wk] V (GaveS [] V (yieldM a b c d e ts ks fs tn st wk))) := hide (fun V hV => yield_any a b c d e ts ks fs A0 A1 A2 c0 c1 c2 tn st wk  V ht hk hf hV)
 generalize yieldM a b c d e ts ks fs tn st wk = o at hC ⊢
 go_enter Tryz.func108, Tryz.ntmps108
 go_wp2_with fail
 generalize hW : ((((w.alloc _).alloc _).alloc _).alloc _).alloc _ = W1
 have M := Sep.e5 hW
 clear hW
 go_call (hC.out _ (H.out.below M.below)) as r W2 ⟨B0, B1, B2, d0, d1, d2, rfl, g1⟩
 replace M := Sep.new M g1
 simp only [List.cons_append, List.nil_append] at M
 clear g1
 obtain ⟨tS, Ac, Ai, Aa, Ah⟩ := M.f2 3 rfl
 obtain ⟨tR, Ae, Al, Ag, An, Ab, Ak, Af, Am, Ad, Aj⟩ := M.f5 4 rfl
 go_wp2_with fail
 clear tS Ac Ai Aa Ah tR Ae Al Ag An Ab Ak Af Am Ad Aj
 have N := M.gset5 4 rfl (.slice B0 o.ts.length d0) (.slice B1 o.ks.length d1) (.slice B2 o.fs.length d2) (.int .i64 o.tn) (.bool o.st)
 clear M
 obtain ⟨W3, eW, M⟩ := N
 rw [eW]
 clear eW
 simp only [List.set_cons_zero, List.set_cons_succ] at M
 have N := M.gset2 3 rfl (.int .i64 o.rp) (.int .i64 o.ou)
 clear M
 obtain ⟨W4, eW, M⟩ := N
 rw [eW]
 clear eW
 simp only [List.set_cons_zero, List.set_cons_succ] at M
 obtain ⟨tS, Ac, Aa⟩ := M.q2 3 rfl
 obtain ⟨tR, Ae, Ag, Ab, Af, Ad⟩ := M.q5 4 rfl
 exact bodyPost_ret (by simp [results, Tryz.results108, go_sem, Ae, Ag, Ab, Af, Ad, Ac, Aa]) rfl ⟨B0, B1, B2, d0, d1, d2, rfl, M.take 3⟩
set_option maxHeartbeats 4000000 in
theorem apply_4 (a b c d e : Int) (ts : List T7) (ks : List Int) (fs : List F2) (A0 A1 A2 : Option Addr) (c0 c1 c2 : Nat) (tn : Int) (st : Bool) (wk x y : Int) (w : World) (ht : ts.length ≤ 1048576) (hk : ks.length ≤ 1048576) (hf : fs.length ≤ 1048576) (h : InPool w ts ks fs A0 A1 A2) :
 Calls Tryz.prog 108 #[.agg #[.int .i64 a, .int .i64 b, .int .i64 c, .int .i64 d, .int .i64 e], .agg #[.slice A0 ts.length c0, .slice A1 ks.length c1, .slice A2 fs.length c2, .int .i64 tn, .bool st], .int .i64 wk, .agg #[.int .i64 4, .int .i64 x, .int .i64 y]] w (GaveS [] w (end_M a b c d e ts ks fs tn st wk x)) := by
 have H := hide h
 clear h
 have hC : Hid (∀ V, InPool V ts ks fs A0 A1 A2 → Calls Tryz.prog 36 #[.agg #[.int .i64 a, .int .i64 b, .int .i64 c, .int .i64 d, .int .i64 e], .agg #[.slice A0 ts.length c0, .slice A1 ks.length c1, .slice A2 fs.length c2, .int .i64 tn, .bool st], .int .i64 wk, .int .i64 x] V (GaveS [] V (end_M a b c d e ts ks fs tn st wk x))) := hide (fun V hV => end__any a b c d e ts ks fs A0 A1 A2 c0 c1 c2 tn st wk x V ht hk hf hV)
 generalize end_M a b c d e ts ks fs tn st wk x = o at hC ⊢
 go_enter Tryz.func108, Tryz.ntmps108
 go_wp2_with fail
 generalize hW : ((((w.alloc _).alloc _).alloc _).alloc _).alloc _ = W1
 have M := Sep.e5 hW
 clear hW
 go_call (hC.out _ (H.out.below M.below)) as r W2 ⟨B0, B1, B2, d0, d1, d2, rfl, g1⟩
 replace M := Sep.new M g1
 simp only [List.cons_append, List.nil_append] at M
 clear g1
 obtain ⟨tS, Ac, Ai, Aa, Ah⟩ := M.f2 3 rfl
 obtain ⟨tR, Ae, Al, Ag, An, Ab, Ak, Af, Am, Ad, Aj⟩ := M.f5 4 rfl
 go_wp2_with fail
 clear tS Ac Ai Aa Ah tR Ae Al Ag An Ab Ak Af Am Ad Aj
 have N := M.gset5 4 rfl (.slice B0 o.ts.length d0) (.slice B1 o.ks.length d1) (.slice B2 o.fs.length d2) (.int .i64 o.tn) (.bool o.st)
 clear M
 obtain ⟨W3, eW, M⟩ := N
 rw [eW]
 clear eW
 simp only [List.set_cons_zero, List.set_cons_succ] at M
 have N := M.gset2 3 rfl (.int .i64 o.rp) (.int .i64 o.ou)
 clear M
 obtain ⟨W4, eW, M⟩ := N
 rw [eW]
 clear eW
 simp only [List.set_cons_zero, List.set_cons_succ] at M
 obtain ⟨tS, Ac, Aa⟩ := M.q2 3 rfl
 obtain ⟨tR, Ae, Ag, Ab, Af, Ad⟩ := M.q5 4 rfl
 exact bodyPost_ret (by simp [results, Tryz.results108, go_sem, Ae, Ag, Ab, Af, Ad, Ac, Aa]) rfl ⟨B0, B1, B2, d0, d1, d2, rfl, M.take 3⟩
set_option maxHeartbeats 4000000 in
theorem apply_5 (a b c d e : Int) (ts : List T7) (ks : List Int) (fs : List F2) (A0 A1 A2 : Option Addr) (c0 c1 c2 : Nat) (tn : Int) (st : Bool) (wk x y : Int) (w : World) (ht : ts.length ≤ 1048576) (hk : ks.length ≤ 1048576) (hf : fs.length ≤ 1048576) (h : InPool w ts ks fs A0 A1 A2) :
 Calls Tryz.prog 108 #[.agg #[.int .i64 a, .int .i64 b, .int .i64 c, .int .i64 d, .int .i64 e], .agg #[.slice A0 ts.length c0, .slice A1 ks.length c1, .slice A2 fs.length c2, .int .i64 tn, .bool st], .int .i64 wk, .agg #[.int .i64 5, .int .i64 x, .int .i64 y]] w (GaveS [] w (joinM a b c d e ts ks fs tn st wk x)) := by
 have H := hide h
 clear h
 have hC : Hid (∀ V, InPool V ts ks fs A0 A1 A2 → Calls Tryz.prog 132 #[.agg #[.int .i64 a, .int .i64 b, .int .i64 c, .int .i64 d, .int .i64 e], .agg #[.slice A0 ts.length c0, .slice A1 ks.length c1, .slice A2 fs.length c2, .int .i64 tn, .bool st], .int .i64 wk, .int .i64 x] V (GaveS [] V (joinM a b c d e ts ks fs tn st wk x))) := hide (fun V hV => join_any a b c d e ts ks fs A0 A1 A2 c0 c1 c2 tn st wk x V ht hk hf hV)
 generalize joinM a b c d e ts ks fs tn st wk x = o at hC ⊢
 go_enter Tryz.func108, Tryz.ntmps108
 go_wp2_with fail
 generalize hW : ((((w.alloc _).alloc _).alloc _).alloc _).alloc _ = W1
 have M := Sep.e5 hW
 clear hW
 go_call (hC.out _ (H.out.below M.below)) as r W2 ⟨B0, B1, B2, d0, d1, d2, rfl, g1⟩
 replace M := Sep.new M g1
 simp only [List.cons_append, List.nil_append] at M
 clear g1
 obtain ⟨tS, Ac, Ai, Aa, Ah⟩ := M.f2 3 rfl
 obtain ⟨tR, Ae, Al, Ag, An, Ab, Ak, Af, Am, Ad, Aj⟩ := M.f5 4 rfl
 go_wp2_with fail
 clear tS Ac Ai Aa Ah tR Ae Al Ag An Ab Ak Af Am Ad Aj
 have N := M.gset5 4 rfl (.slice B0 o.ts.length d0) (.slice B1 o.ks.length d1) (.slice B2 o.fs.length d2) (.int .i64 o.tn) (.bool o.st)
 clear M
 obtain ⟨W3, eW, M⟩ := N
 rw [eW]
 clear eW
 simp only [List.set_cons_zero, List.set_cons_succ] at M
 have N := M.gset2 3 rfl (.int .i64 o.rp) (.int .i64 o.ou)
 clear M
 obtain ⟨W4, eW, M⟩ := N
 rw [eW]
 clear eW
 simp only [List.set_cons_zero, List.set_cons_succ] at M
 obtain ⟨tS, Ac, Aa⟩ := M.q2 3 rfl
 obtain ⟨tR, Ae, Ag, Ab, Af, Ad⟩ := M.q5 4 rfl
 exact bodyPost_ret (by simp [results, Tryz.results108, go_sem, Ae, Ag, Ab, Af, Ad, Ac, Aa]) rfl ⟨B0, B1, B2, d0, d1, d2, rfl, M.take 3⟩
set_option maxHeartbeats 4000000 in
theorem apply_6 (a b c d e : Int) (ts : List T7) (ks : List Int) (fs : List F2) (A0 A1 A2 : Option Addr) (c0 c1 c2 : Nat) (tn : Int) (st : Bool) (wk x y : Int) (w : World) (ht : ts.length ≤ 1048576) (hk : ks.length ≤ 1048576) (hf : fs.length ≤ 1048576) (h : InPool w ts ks fs A0 A1 A2) :
 Calls Tryz.prog 108 #[.agg #[.int .i64 a, .int .i64 b, .int .i64 c, .int .i64 d, .int .i64 e], .agg #[.slice A0 ts.length c0, .slice A1 ks.length c1, .slice A2 fs.length c2, .int .i64 tn, .bool st], .int .i64 wk, .agg #[.int .i64 6, .int .i64 x, .int .i64 y]] w (GaveS [] w (cancelM a b c d e ts ks fs tn st wk x)) := by
 have H := hide h
 clear h
 have hC : Hid (∀ V, InPool V ts ks fs A0 A1 A2 → Calls Tryz.prog 133 #[.agg #[.int .i64 a, .int .i64 b, .int .i64 c, .int .i64 d, .int .i64 e], .agg #[.slice A0 ts.length c0, .slice A1 ks.length c1, .slice A2 fs.length c2, .int .i64 tn, .bool st], .int .i64 wk, .int .i64 x] V (GaveS [] V (cancelM a b c d e ts ks fs tn st wk x))) := hide (fun V hV => cancel_any a b c d e ts ks fs A0 A1 A2 c0 c1 c2 tn st wk x V ht hk hf hV)
 generalize cancelM a b c d e ts ks fs tn st wk x = o at hC ⊢
 go_enter Tryz.func108, Tryz.ntmps108
 go_wp2_with fail
 generalize hW : ((((w.alloc _).alloc _).alloc _).alloc _).alloc _ = W1
 have M := Sep.e5 hW
 clear hW
 go_call (hC.out _ (H.out.below M.below)) as r W2 ⟨B0, B1, B2, d0, d1, d2, rfl, g1⟩
 replace M := Sep.new M g1
 simp only [List.cons_append, List.nil_append] at M
 clear g1
 obtain ⟨tS, Ac, Ai, Aa, Ah⟩ := M.f2 3 rfl
 obtain ⟨tR, Ae, Al, Ag, An, Ab, Ak, Af, Am, Ad, Aj⟩ := M.f5 4 rfl
 go_wp2_with fail
 clear tS Ac Ai Aa Ah tR Ae Al Ag An Ab Ak Af Am Ad Aj
 have N := M.gset5 4 rfl (.slice B0 o.ts.length d0) (.slice B1 o.ks.length d1) (.slice B2 o.fs.length d2) (.int .i64 o.tn) (.bool o.st)
 clear M
 obtain ⟨W3, eW, M⟩ := N
 rw [eW]
 clear eW
 simp only [List.set_cons_zero, List.set_cons_succ] at M
 have N := M.gset2 3 rfl (.int .i64 o.rp) (.int .i64 o.ou)
 clear M
 obtain ⟨W4, eW, M⟩ := N
 rw [eW]
 clear eW
 simp only [List.set_cons_zero, List.set_cons_succ] at M
 obtain ⟨tS, Ac, Aa⟩ := M.q2 3 rfl
 obtain ⟨tR, Ae, Ag, Ab, Af, Ad⟩ := M.q5 4 rfl
 exact bodyPost_ret (by simp [results, Tryz.results108, go_sem, Ae, Ag, Ab, Af, Ad, Ac, Aa]) rfl ⟨B0, B1, B2, d0, d1, d2, rfl, M.take 3⟩
set_option maxRecDepth 100000
set_option maxHeartbeats 4000000 in
theorem apply_7 (a b c d e : Int) (ts : List T7) (ks : List Int) (fs : List F2) (A0 A1 A2 : Option Addr) (c0 c1 c2 : Nat) (tn : Int) (st : Bool) (wk x y : Int) (w : World) (ht : ts.length ≤ 1048576) (hk : ks.length ≤ 1048576) (hf : fs.length ≤ 1048576) (h : InPool w ts ks fs A0 A1 A2) :
 Calls Tryz.prog 108 #[.agg #[.int .i64 a, .int .i64 b, .int .i64 c, .int .i64 d, .int .i64 e], .agg #[.slice A0 ts.length c0, .slice A1 ks.length c1, .slice A2 fs.length c2, .int .i64 tn, .bool st], .int .i64 wk, .agg #[.int .i64 7, .int .i64 x, .int .i64 y]] w (GaveS [] w (levelM a b c d e ts ks fs tn st wk x y)) := by
 have H := hide h
 clear h
 have hC : Hid (∀ V, InPool V ts ks fs A0 A1 A2 → Calls Tryz.prog 134 #[.agg #[.int .i64 a, .int .i64 b, .int .i64 c, .int .i64 d, .int .i64 e], .agg #[.slice A0 ts.length c0, .slice A1 ks.length c1, .slice A2 fs.length c2, .int .i64 tn, .bool st], .int .i64 wk, .int .i64 x, .int .i64 y] V (GaveS [] V (levelM a b c d e ts ks fs tn st wk x y))) := hide (fun V hV => level_any a b c d e ts ks fs A0 A1 A2 c0 c1 c2 tn st wk x y V ht hk hf hV)
 generalize levelM a b c d e ts ks fs tn st wk x y = o at hC ⊢
 go_enter Tryz.func108, Tryz.ntmps108
 go_wp2_with fail
 generalize hW : ((((w.alloc _).alloc _).alloc _).alloc _).alloc _ = W1
 have M := Sep.e5 hW
 clear hW
 go_call (hC.out _ (H.out.below M.below)) as r W2 ⟨B0, B1, B2, d0, d1, d2, rfl, g1⟩
 replace M := Sep.new M g1
 simp only [List.cons_append, List.nil_append] at M
 clear g1
 obtain ⟨tS, Ac, Ai, Aa, Ah⟩ := M.f2 3 rfl
 obtain ⟨tR, Ae, Al, Ag, An, Ab, Ak, Af, Am, Ad, Aj⟩ := M.f5 4 rfl
 go_wp2_with fail
 clear tS Ac Ai Aa Ah tR Ae Al Ag An Ab Ak Af Am Ad Aj
 have N := M.gset5 4 rfl (.slice B0 o.ts.length d0) (.slice B1 o.ks.length d1) (.slice B2 o.fs.length d2) (.int .i64 o.tn) (.bool o.st)
 clear M
 obtain ⟨W3, eW, M⟩ := N
 rw [eW]
 clear eW
 simp only [List.set_cons_zero, List.set_cons_succ] at M
 have N := M.gset2 3 rfl (.int .i64 o.rp) (.int .i64 o.ou)
 clear M
 obtain ⟨W4, eW, M⟩ := N
 rw [eW]
 clear eW
 simp only [List.set_cons_zero, List.set_cons_succ] at M
 obtain ⟨tS, Ac, Aa⟩ := M.q2 3 rfl
 obtain ⟨tR, Ae, Ag, Ab, Af, Ad⟩ := M.q5 4 rfl
 exact bodyPost_ret (by simp [results, Tryz.results108, go_sem, Ae, Ag, Ab, Af, Ad, Ac, Aa]) rfl ⟨B0, B1, B2, d0, d1, d2, rfl, M.take 3⟩
set_option maxHeartbeats 4000000 in
theorem apply_8 (a b c d e : Int) (ts : List T7) (ks : List Int) (fs : List F2) (A0 A1 A2 : Option Addr) (c0 c1 c2 : Nat) (tn : Int) (st : Bool) (wk x y : Int) (w : World) (ht : ts.length ≤ 1048576) (hk : ks.length ≤ 1048576) (hf : fs.length ≤ 1048576) (h : InPool w ts ks fs A0 A1 A2) :
 Calls Tryz.prog 108 #[.agg #[.int .i64 a, .int .i64 b, .int .i64 c, .int .i64 d, .int .i64 e], .agg #[.slice A0 ts.length c0, .slice A1 ks.length c1, .slice A2 fs.length c2, .int .i64 tn, .bool st], .int .i64 wk, .agg #[.int .i64 8, .int .i64 x, .int .i64 y]] w (GaveS [] w (upM a b c d e ts ks fs tn st wk x)) := by
 have H := hide h
 clear h
 have hC : Hid (∀ V, InPool V ts ks fs A0 A1 A2 → Calls Tryz.prog 135 #[.agg #[.int .i64 a, .int .i64 b, .int .i64 c, .int .i64 d, .int .i64 e], .agg #[.slice A0 ts.length c0, .slice A1 ks.length c1, .slice A2 fs.length c2, .int .i64 tn, .bool st], .int .i64 wk, .int .i64 x] V (GaveS [] V (upM a b c d e ts ks fs tn st wk x))) := hide (fun V hV => up_any a b c d e ts ks fs A0 A1 A2 c0 c1 c2 tn st wk x V ht hk hf hV)
 generalize upM a b c d e ts ks fs tn st wk x = o at hC ⊢
 go_enter Tryz.func108, Tryz.ntmps108
 go_wp2_with fail
 generalize hW : ((((w.alloc _).alloc _).alloc _).alloc _).alloc _ = W1
 have M := Sep.e5 hW
 clear hW
 go_call (hC.out _ (H.out.below M.below)) as r W2 ⟨B0, B1, B2, d0, d1, d2, rfl, g1⟩
 replace M := Sep.new M g1
 simp only [List.cons_append, List.nil_append] at M
 clear g1
 obtain ⟨tS, Ac, Ai, Aa, Ah⟩ := M.f2 3 rfl
 obtain ⟨tR, Ae, Al, Ag, An, Ab, Ak, Af, Am, Ad, Aj⟩ := M.f5 4 rfl
 go_wp2_with fail
 clear tS Ac Ai Aa Ah tR Ae Al Ag An Ab Ak Af Am Ad Aj
 have N := M.gset5 4 rfl (.slice B0 o.ts.length d0) (.slice B1 o.ks.length d1) (.slice B2 o.fs.length d2) (.int .i64 o.tn) (.bool o.st)
 clear M
 obtain ⟨W3, eW, M⟩ := N
 rw [eW]
 clear eW
 simp only [List.set_cons_zero, List.set_cons_succ] at M
 have N := M.gset2 3 rfl (.int .i64 o.rp) (.int .i64 o.ou)
 clear M
 obtain ⟨W4, eW, M⟩ := N
 rw [eW]
 clear eW
 simp only [List.set_cons_zero, List.set_cons_succ] at M
 obtain ⟨tS, Ac, Aa⟩ := M.q2 3 rfl
 obtain ⟨tR, Ae, Ag, Ab, Af, Ad⟩ := M.q5 4 rfl
 exact bodyPost_ret (by simp [results, Tryz.results108, go_sem, Ae, Ag, Ab, Af, Ad, Ac, Aa]) rfl ⟨B0, B1, B2, d0, d1, d2, rfl, M.take 3⟩
set_option maxHeartbeats 4000000 in
theorem apply_9 (a b c d e : Int) (ts : List T7) (ks : List Int) (fs : List F2) (A0 A1 A2 : Option Addr) (c0 c1 c2 : Nat) (tn : Int) (st : Bool) (wk x y : Int) (w : World) (ht : ts.length ≤ 1048576) (hk : ks.length ≤ 1048576) (hf : fs.length ≤ 1048576) (h : InPool w ts ks fs A0 A1 A2) :
 Calls Tryz.prog 108 #[.agg #[.int .i64 a, .int .i64 b, .int .i64 c, .int .i64 d, .int .i64 e], .agg #[.slice A0 ts.length c0, .slice A1 ks.length c1, .slice A2 fs.length c2, .int .i64 tn, .bool st], .int .i64 wk, .agg #[.int .i64 9, .int .i64 x, .int .i64 y]] w (GaveS [] w (downM a b c d e ts ks fs tn st wk x)) := by
 have H := hide h
 clear h
 have hC : Hid (∀ V, InPool V ts ks fs A0 A1 A2 → Calls Tryz.prog 136 #[.agg #[.int .i64 a, .int .i64 b, .int .i64 c, .int .i64 d, .int .i64 e], .agg #[.slice A0 ts.length c0, .slice A1 ks.length c1, .slice A2 fs.length c2, .int .i64 tn, .bool st], .int .i64 wk, .int .i64 x] V (GaveS [] V (downM a b c d e ts ks fs tn st wk x))) := hide (fun V hV => down_any a b c d e ts ks fs A0 A1 A2 c0 c1 c2 tn st wk x V ht hk hf hV)
 generalize downM a b c d e ts ks fs tn st wk x = o at hC ⊢
 go_enter Tryz.func108, Tryz.ntmps108
 go_wp2_with fail
 generalize hW : ((((w.alloc _).alloc _).alloc _).alloc _).alloc _ = W1
 have M := Sep.e5 hW
 clear hW
 go_call (hC.out _ (H.out.below M.below)) as r W2 ⟨B0, B1, B2, d0, d1, d2, rfl, g1⟩
 replace M := Sep.new M g1
 simp only [List.cons_append, List.nil_append] at M
 clear g1
 obtain ⟨tS, Ac, Ai, Aa, Ah⟩ := M.f2 3 rfl
 obtain ⟨tR, Ae, Al, Ag, An, Ab, Ak, Af, Am, Ad, Aj⟩ := M.f5 4 rfl
 go_wp2_with fail
 clear tS Ac Ai Aa Ah tR Ae Al Ag An Ab Ak Af Am Ad Aj
 have N := M.gset5 4 rfl (.slice B0 o.ts.length d0) (.slice B1 o.ks.length d1) (.slice B2 o.fs.length d2) (.int .i64 o.tn) (.bool o.st)
 clear M
 obtain ⟨W3, eW, M⟩ := N
 rw [eW]
 clear eW
 simp only [List.set_cons_zero, List.set_cons_succ] at M
 have N := M.gset2 3 rfl (.int .i64 o.rp) (.int .i64 o.ou)
 clear M
 obtain ⟨W4, eW, M⟩ := N
 rw [eW]
 clear eW
 simp only [List.set_cons_zero, List.set_cons_succ] at M
 obtain ⟨tS, Ac, Aa⟩ := M.q2 3 rfl
 obtain ⟨tR, Ae, Ag, Ab, Af, Ad⟩ := M.q5 4 rfl
 exact bodyPost_ret (by simp [results, Tryz.results108, go_sem, Ae, Ag, Ab, Af, Ad, Ac, Aa]) rfl ⟨B0, B1, B2, d0, d1, d2, rfl, M.take 3⟩
set_option maxHeartbeats 4000000 in
theorem apply_10 (a b c d e : Int) (ts : List T7) (ks : List Int) (fs : List F2) (A0 A1 A2 : Option Addr) (c0 c1 c2 : Nat) (tn : Int) (st : Bool) (wk x y : Int) (w : World) (ht : ts.length ≤ 1048576) (hk : ks.length ≤ 1048576) (hf : fs.length ≤ 1048576) (h : InPool w ts ks fs A0 A1 A2) :
 Calls Tryz.prog 108 #[.agg #[.int .i64 a, .int .i64 b, .int .i64 c, .int .i64 d, .int .i64 e], .agg #[.slice A0 ts.length c0, .slice A1 ks.length c1, .slice A2 fs.length c2, .int .i64 tn, .bool st], .int .i64 wk, .agg #[.int .i64 10, .int .i64 x, .int .i64 y]] w (GaveS [] w (setM a b c d e ts ks fs tn st wk x y)) := by
 have H := hide h
 clear h
 have hC : Hid (∀ V, InPool V ts ks fs A0 A1 A2 → Calls Tryz.prog 137 #[.agg #[.int .i64 a, .int .i64 b, .int .i64 c, .int .i64 d, .int .i64 e], .agg #[.slice A0 ts.length c0, .slice A1 ks.length c1, .slice A2 fs.length c2, .int .i64 tn, .bool st], .int .i64 wk, .int .i64 x, .int .i64 y] V (GaveS [] V (setM a b c d e ts ks fs tn st wk x y))) := hide (fun V hV => set_any a b c d e ts ks fs A0 A1 A2 c0 c1 c2 tn st wk x y V ht hk hf hV)
 generalize setM a b c d e ts ks fs tn st wk x y = o at hC ⊢
 go_enter Tryz.func108, Tryz.ntmps108
 go_wp2_with fail
 generalize hW : ((((w.alloc _).alloc _).alloc _).alloc _).alloc _ = W1
 have M := Sep.e5 hW
 clear hW
 go_call (hC.out _ (H.out.below M.below)) as r W2 ⟨B0, B1, B2, d0, d1, d2, rfl, g1⟩
 replace M := Sep.new M g1
 simp only [List.cons_append, List.nil_append] at M
 clear g1
 obtain ⟨tS, Ac, Ai, Aa, Ah⟩ := M.f2 3 rfl
 obtain ⟨tR, Ae, Al, Ag, An, Ab, Ak, Af, Am, Ad, Aj⟩ := M.f5 4 rfl
 go_wp2_with fail
 clear tS Ac Ai Aa Ah tR Ae Al Ag An Ab Ak Af Am Ad Aj
 have N := M.gset5 4 rfl (.slice B0 o.ts.length d0) (.slice B1 o.ks.length d1) (.slice B2 o.fs.length d2) (.int .i64 o.tn) (.bool o.st)
 clear M
 obtain ⟨W3, eW, M⟩ := N
 rw [eW]
 clear eW
 simp only [List.set_cons_zero, List.set_cons_succ] at M
 have N := M.gset2 3 rfl (.int .i64 o.rp) (.int .i64 o.ou)
 clear M
 obtain ⟨W4, eW, M⟩ := N
 rw [eW]
 clear eW
 simp only [List.set_cons_zero, List.set_cons_succ] at M
 obtain ⟨tS, Ac, Aa⟩ := M.q2 3 rfl
 obtain ⟨tR, Ae, Ag, Ab, Af, Ad⟩ := M.q5 4 rfl
 exact bodyPost_ret (by simp [results, Tryz.results108, go_sem, Ae, Ag, Ab, Af, Ad, Ac, Aa]) rfl ⟨B0, B1, B2, d0, d1, d2, rfl, M.take 3⟩
set_option maxHeartbeats 4000000 in
theorem apply_11 (a b c d e : Int) (ts : List T7) (ks : List Int) (fs : List F2) (A0 A1 A2 : Option Addr) (c0 c1 c2 : Nat) (tn : Int) (st : Bool) (wk x y : Int) (w : World) (ht : ts.length ≤ 1048576) (hk : ks.length ≤ 1048576) (hf : fs.length ≤ 1048576) (h : InPool w ts ks fs A0 A1 A2) :
 Calls Tryz.prog 108 #[.agg #[.int .i64 a, .int .i64 b, .int .i64 c, .int .i64 d, .int .i64 e], .agg #[.slice A0 ts.length c0, .slice A1 ks.length c1, .slice A2 fs.length c2, .int .i64 tn, .bool st], .int .i64 wk, .agg #[.int .i64 11, .int .i64 x, .int .i64 y]] w (GaveS [] w (gotM a b c d e ts ks fs tn st wk x)) := by
 have H := hide h
 clear h
 have hC : Hid (∀ V, InPool V ts ks fs A0 A1 A2 → Calls Tryz.prog 138 #[.agg #[.int .i64 a, .int .i64 b, .int .i64 c, .int .i64 d, .int .i64 e], .agg #[.slice A0 ts.length c0, .slice A1 ks.length c1, .slice A2 fs.length c2, .int .i64 tn, .bool st], .int .i64 wk, .int .i64 x] V (GaveS [] V (gotM a b c d e ts ks fs tn st wk x))) := hide (fun V hV => got_any a b c d e ts ks fs A0 A1 A2 c0 c1 c2 tn st wk x V ht hk hf hV)
 generalize gotM a b c d e ts ks fs tn st wk x = o at hC ⊢
 go_enter Tryz.func108, Tryz.ntmps108
 go_wp2_with fail
 generalize hW : ((((w.alloc _).alloc _).alloc _).alloc _).alloc _ = W1
 have M := Sep.e5 hW
 clear hW
 go_call (hC.out _ (H.out.below M.below)) as r W2 ⟨B0, B1, B2, d0, d1, d2, rfl, g1⟩
 replace M := Sep.new M g1
 simp only [List.cons_append, List.nil_append] at M
 clear g1
 obtain ⟨tS, Ac, Ai, Aa, Ah⟩ := M.f2 3 rfl
 obtain ⟨tR, Ae, Al, Ag, An, Ab, Ak, Af, Am, Ad, Aj⟩ := M.f5 4 rfl
 go_wp2_with fail
 clear tS Ac Ai Aa Ah tR Ae Al Ag An Ab Ak Af Am Ad Aj
 have N := M.gset5 4 rfl (.slice B0 o.ts.length d0) (.slice B1 o.ks.length d1) (.slice B2 o.fs.length d2) (.int .i64 o.tn) (.bool o.st)
 clear M
 obtain ⟨W3, eW, M⟩ := N
 rw [eW]
 clear eW
 simp only [List.set_cons_zero, List.set_cons_succ] at M
 have N := M.gset2 3 rfl (.int .i64 o.rp) (.int .i64 o.ou)
 clear M
 obtain ⟨W4, eW, M⟩ := N
 rw [eW]
 clear eW
 simp only [List.set_cons_zero, List.set_cons_succ] at M
 obtain ⟨tS, Ac, Aa⟩ := M.q2 3 rfl
 obtain ⟨tR, Ae, Ag, Ab, Af, Ad⟩ := M.q5 4 rfl
 exact bodyPost_ret (by simp [results, Tryz.results108, go_sem, Ae, Ag, Ab, Af, Ad, Ac, Aa]) rfl ⟨B0, B1, B2, d0, d1, d2, rfl, M.take 3⟩
set_option maxHeartbeats 4000000 in
theorem apply_12 (a b c d e : Int) (ts : List T7) (ks : List Int) (fs : List F2) (A0 A1 A2 : Option Addr) (c0 c1 c2 : Nat) (tn : Int) (st : Bool) (wk x y : Int) (w : World) (ht : ts.length ≤ 1048576) (hk : ks.length ≤ 1048576) (hf : fs.length ≤ 1048576) (h : InPool w ts ks fs A0 A1 A2) :
 Calls Tryz.prog 108 #[.agg #[.int .i64 a, .int .i64 b, .int .i64 c, .int .i64 d, .int .i64 e], .agg #[.slice A0 ts.length c0, .slice A1 ks.length c1, .slice A2 fs.length c2, .int .i64 tn, .bool st], .int .i64 wk, .agg #[.int .i64 12, .int .i64 x, .int .i64 y]] w (GaveS [] w (stopM a b c d e ts ks fs tn st wk)) := by
 have H := hide h
 clear h
 have hC : Hid (∀ V, InPool V ts ks fs A0 A1 A2 → Calls Tryz.prog 139 #[.agg #[.int .i64 a, .int .i64 b, .int .i64 c, .int .i64 d, .int .i64 e], .agg #[.slice A0 ts.length c0, .slice A1 ks.length c1, .slice A2 fs.length c2, .int .i64 tn, .bool st], .int .i64 wk] V (GaveS [] V (stopM a b c d e ts ks fs tn st wk))) := hide (fun V hV => stop_any a b c d e ts ks fs A0 A1 A2 c0 c1 c2 tn st wk  V ht hk hf hV)
 generalize stopM a b c d e ts ks fs tn st wk = o at hC ⊢
 go_enter Tryz.func108, Tryz.ntmps108
 go_wp2_with fail
 generalize hW : ((((w.alloc _).alloc _).alloc _).alloc _).alloc _ = W1
 have M := Sep.e5 hW
 clear hW
 go_call (hC.out _ (H.out.below M.below)) as r W2 ⟨B0, B1, B2, d0, d1, d2, rfl, g1⟩
 replace M := Sep.new M g1
 simp only [List.cons_append, List.nil_append] at M
 clear g1
 obtain ⟨tS, Ac, Ai, Aa, Ah⟩ := M.f2 3 rfl
 obtain ⟨tR, Ae, Al, Ag, An, Ab, Ak, Af, Am, Ad, Aj⟩ := M.f5 4 rfl
 go_wp2_with fail
 clear tS Ac Ai Aa Ah tR Ae Al Ag An Ab Ak Af Am Ad Aj
 have N := M.gset5 4 rfl (.slice B0 o.ts.length d0) (.slice B1 o.ks.length d1) (.slice B2 o.fs.length d2) (.int .i64 o.tn) (.bool o.st)
 clear M
 obtain ⟨W3, eW, M⟩ := N
 rw [eW]
 clear eW
 simp only [List.set_cons_zero, List.set_cons_succ] at M
 have N := M.gset2 3 rfl (.int .i64 o.rp) (.int .i64 o.ou)
 clear M
 obtain ⟨W4, eW, M⟩ := N
 rw [eW]
 clear eW
 simp only [List.set_cons_zero, List.set_cons_succ] at M
 obtain ⟨tS, Ac, Aa⟩ := M.q2 3 rfl
 obtain ⟨tR, Ae, Ag, Ab, Af, Ad⟩ := M.q5 4 rfl
 exact bodyPost_ret (by simp [results, Tryz.results108, go_sem, Ae, Ag, Ab, Af, Ad, Ac, Aa]) rfl ⟨B0, B1, B2, d0, d1, d2, rfl, M.take 3⟩
end Go.Proofs.YtfjgelegojbmgaaGreat
