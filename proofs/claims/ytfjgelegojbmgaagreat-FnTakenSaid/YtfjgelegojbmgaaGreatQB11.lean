/- What a call of the model's answers: a pool and a reply, as one thing; the two ends of a call in these words. Lists no longer than a million. -/
import Derived.Test.YtfjgelegojbmgaaGreatQB05
import Derived.Test.YtfjgelegojbmgaaGreatQB07
import Derived.Test.YtfjgelegojbmgaaGreatQB10
import Derived.Test.YtfjgelegojbmgaaGreatQB04

namespace Go.Proofs.YtfjgelegojbmgaaGreat
open Go.RowKit
set_option linter.unusedVariables false
theorem Sep.e1 {w W : World} {o1 : Array Value} {t1 : TypeId} (h : w.alloc (.cells o1 t1) = W) : Sep [] w W [.blk w.heap.size t1 o1] := h ▸ (Sep.start w).alloc t1 o1 w.heap.size rfl
theorem Sep.e2 {w W : World} {o1 o2 : Array Value} {t1 t2 : TypeId} (h : (w.alloc (.cells o1 t1)).alloc (.cells o2 t2) = W) : Sep [] w W [.blk (w.heap.size + 1) t2 o2, .blk w.heap.size t1 o1] := h ▸ Sep.enter2 w
theorem Sep.e3 {w W : World} {o1 o2 o3 : Array Value} {t1 t2 t3 : TypeId} (h : ((w.alloc (.cells o1 t1)).alloc (.cells o2 t2)).alloc (.cells o3 t3) = W) : Sep [] w W [.blk (w.heap.size + 2) t3 o3, .blk (w.heap.size + 1) t2 o2, .blk w.heap.size t1 o1] := h ▸ Sep.enter3 w
theorem Sep.e4 {w W : World} {o1 o2 o3 o4 : Array Value} {t1 t2 t3 t4 : TypeId} (h : (((w.alloc (.cells o1 t1)).alloc (.cells o2 t2)).alloc (.cells o3 t3)).alloc (.cells o4 t4) = W) : Sep [] w W [.blk (w.heap.size + 3) t4 o4, .blk (w.heap.size + 2) t3 o3, .blk (w.heap.size + 1) t2 o2, .blk w.heap.size t1 o1] := h ▸ Sep.enter4 w
theorem Sep.e5 {w W : World} {o1 o2 o3 o4 o5 : Array Value} {t1 t2 t3 t4 t5 : TypeId} (h : ((((w.alloc (.cells o1 t1)).alloc (.cells o2 t2)).alloc (.cells o3 t3)).alloc (.cells o4 t4)).alloc (.cells o5 t5) = W) : Sep [] w W [.blk (w.heap.size + 4) t5 o5, .blk (w.heap.size + 3) t4 o4, .blk (w.heap.size + 2) t3 o3, .blk (w.heap.size + 1) t2 o2, .blk w.heap.size t1 o1] := h ▸ Sep.enter5 w
set_option maxRecDepth 100000
/-- A new pool and an answer. -/
def GavePA (w : World) (ts : List T7) (ks : List Int) (fs : List F2) (tn : Int) (st : Bool) (rp ou : Int) (r : Ending) (w' : World) : Prop :=
 ∃ (A0 A1 A2 : Option Addr) (c0 c1 c2 : Nat), r = .returned (.tuple #[.agg #[.slice A0 ts.length c0, .slice A1 ks.length c1, .slice A2 fs.length c2, .int .i64 tn, .bool st], .agg #[.int .i64 rp, .int .i64 ou]]) ∧ OwnPool w' w.heap.size w'.heap.size ts ks fs A0 A1 A2 c0 c1 c2 ∧ Below w.heap.size w w'
theorem sPoolOk_v (a b c d e : Int) (ts : List T7) (ks : List Int) (fs : List F2) (A0 A1 A2 : Option Addr) (c0 c1 c2 : Nat) (tn : Int) (st : Bool) (z : Bool) (hz : poolB a b c d e ts ks fs tn = z) (w : World) (ht : ts.length ≤ 1048576) (hk : ks.length ≤ 1048576) (hf : fs.length ≤ 1048576) (h : InPool w ts ks fs A0 A1 A2) :
 Calls Tryz.prog 16 #[.agg #[.int .i64 a, .int .i64 b, .int .i64 c, .int .i64 d, .int .i64 e], .agg #[.slice A0 ts.length c0, .slice A1 ks.length c1, .slice A2 fs.length c2, .int .i64 tn, .bool st]] w fun r w' => r = .returned (.bool z) ∧ Below w.heap.size w w' := hz ▸ sPoolOk_any a b c d e ts ks fs A0 A1 A2 c0 c1 c2 tn st w ht hk hf h
theorem sepPool' {w W : World} {lo hi : Nat} {ts : List T7} {ks : List Int} {fs : List F2} {A0 A1 A2 : Option Addr} {c0 c1 c2 : Nat} (hlo : w.heap.size ≤ lo) (hb : Below w.heap.size w W) (h : OwnPool W lo hi ts ks fs A0 A1 A2 c0 c1 c2) : Sep [] w W [.row 44 7 (.slice A0 ts.length c0) ts.length (tcells ts), .row 2 1 (.slice A1 ks.length c1) ks.length (icells ks), .row 78 2 (.slice A2 fs.length c2) fs.length (fcells fs)] :=
 sepRows3 hlo hb h.1.1 h.2.1.1 h.2.2.1 (by decide) (by decide) (by decide)
set_option maxHeartbeats 4000000 in
theorem l6No_yes (a b c d e : Int) (ts : List T7) (ks : List Int) (fs : List F2) (A0 A1 A2 : Option Addr) (c0 c1 c2 : Nat) (tn : Int) (st : Bool) (rp : Int) (w : World) (hz : poolB a b c d e ts ks fs tn = true) (ht : ts.length ≤ 1048576) (hk : ks.length ≤ 1048576) (hf : fs.length ≤ 1048576) (h : InPool w ts ks fs A0 A1 A2) :
 Calls Tryz.prog 73 #[.agg #[.int .i64 a, .int .i64 b, .int .i64 c, .int .i64 d, .int .i64 e], .agg #[.slice A0 ts.length c0, .slice A1 ks.length c1, .slice A2 fs.length c2, .int .i64 tn, .bool st], .int .i64 rp] w (GavePA w ts ks fs tn st rp 0) := by
 have H := hide h
 have HZ := hide hz
 clear h hz
 go_enter Tryz.func73, Tryz.ntmps73
 go_wp2_with fail
 generalize hW : (((w.alloc _).alloc _).alloc _).alloc _ = W1
 have M := Sep.e4 hW
 clear hW
 obtain ⟨tX, Ao, Ah, An, Aq, Ap⟩ := M.q5 2 rfl
 obtain ⟨tP, Ai, Ak, Aj, Am, Al⟩ := M.q5 3 rfl
 go_wp2_with fail
 go_call (sPoolOk_v a b c d e ts ks fs A0 A1 A2 c0 c1 c2 tn st true HZ.out _ ht hk hf (H.out.below M.below)) as r W2 ⟨rfl, g1⟩
 clear tX Ao Ah An Aq Ap tP Ai Ak Aj Am Al
 replace M := M.call g1
 clear g1
 obtain ⟨tX, Ao, Ah, An, Aq, Ap⟩ := M.q5 2 rfl
 obtain ⟨tP, Ai, Ak, Aj, Am, Al⟩ := M.q5 3 rfl
 go_wp2_with fail
 go_call (l3Copy_any ts ks fs A0 A1 A2 c0 c1 c2 tn st _ ht hk hf (H.out.below M.below)) as r W3 ⟨B0, B1, B2, d0, d1, d2, rfl, g1, g2⟩
 clear tX Ao Ah An Aq Ap tP Ai Ak Aj Am Al
 replace M := Sep.new M (sepPool' (Nat.le_refl _) g2 g1)
 simp only [List.cons_append, List.nil_append] at M
 clear g1 g2
 obtain ⟨tS, Ab, Ax, Aa, Bd⟩ := M.f2 3 rfl
 obtain ⟨tR, Ae, Bf, Ag, Bb, Ad, Ar, Af, Bh, Ac, Be⟩ := M.f5 4 rfl
 go_wp2_with fail
 clear tS Ab Ax Aa Bd tR Ae Bf Ag Bb Ad Ar Af Bh Ac Be
 have N := M.gset5 4 rfl (.slice B0 ts.length d0) (.slice B1 ks.length d1) (.slice B2 fs.length d2) (.int .i64 tn) (.bool st)
 clear M
 obtain ⟨W4, eW, M⟩ := N
 rw [eW]
 clear eW
 simp only [List.set_cons_zero, List.set_cons_succ] at M
 have N := M.gset2 3 rfl (.int .i64 rp) (.int .i64 0)
 clear M
 obtain ⟨W5, eW, M⟩ := N
 rw [eW]
 clear eW
 simp only [List.set_cons_zero, List.set_cons_succ] at M
 obtain ⟨tS, Ab, Aa⟩ := M.q2 3 rfl
 obtain ⟨tR, Ae, Ag, Ad, Af, Ac⟩ := M.q5 4 rfl
 exact bodyPost_ret (v := .tuple #[.agg #[.slice B0 ts.length d0, .slice B1 ks.length d1, .slice B2 fs.length d2, .int .i64 tn, .bool st], .agg #[.int .i64 rp, .int .i64 0]]) (by simp [results, Tryz.results73, go_sem, Ae, Ag, Ad, Af, Ac, Ab, Aa]) rfl ⟨B0, B1, B2, d0, d1, d2, rfl, ⟨M.ownR 0 rfl, M.ownR 1 rfl, M.ownR 2 rfl⟩, M.below⟩
set_option maxHeartbeats 4000000 in
theorem l6No_no (a b c d e : Int) (ts : List T7) (ks : List Int) (fs : List F2) (A0 A1 A2 : Option Addr) (c0 c1 c2 : Nat) (tn : Int) (st : Bool) (rp : Int) (w : World) (hz : poolB a b c d e ts ks fs tn = false) (ht : ts.length ≤ 1048576) (hk : ks.length ≤ 1048576) (hf : fs.length ≤ 1048576) (h : InPool w ts ks fs A0 A1 A2) :
 Calls Tryz.prog 73 #[.agg #[.int .i64 a, .int .i64 b, .int .i64 c, .int .i64 d, .int .i64 e], .agg #[.slice A0 ts.length c0, .slice A1 ks.length c1, .slice A2 fs.length c2, .int .i64 tn, .bool st], .int .i64 rp] w (GavePA w [] [] [] 0 false 8 0) := by
 have H := hide h
 have HZ := hide hz
 clear h hz
 go_enter Tryz.func73, Tryz.ntmps73
 go_wp2_with fail
 generalize hW : (((w.alloc _).alloc _).alloc _).alloc _ = W1
 have M := Sep.e4 hW
 clear hW
 obtain ⟨tX, Ao, Ah, An, Aq, Ap⟩ := M.q5 2 rfl
 obtain ⟨tP, Ai, Ak, Aj, Am, Al⟩ := M.q5 3 rfl
 go_wp2_with fail
 go_call (sPoolOk_v a b c d e ts ks fs A0 A1 A2 c0 c1 c2 tn st false HZ.out _ ht hk hf (H.out.below M.below)) as r W2 ⟨rfl, g1⟩
 clear tX Ao Ah An Aq Ap tP Ai Ak Aj Am Al
 replace M := M.call g1
 clear g1
 obtain ⟨tS, Ab, Ax, Aa, Bd⟩ := M.f2 0 rfl
 obtain ⟨tR, Ae, Bf, Ag, Bb, Ad, Ar, Af, Bh, Ac, Be⟩ := M.f5 1 rfl
 go_wp2_with fail
 clear tS Ab Ax Aa Bd tR Ae Bf Ag Bb Ad Ar Af Bh Ac Be
 have N := M.gset5 1 rfl (.slice none 0 0) (.slice none 0 0) (.slice none 0 0) (.int .i64 0) (.bool false)
 clear M
 obtain ⟨W3, eW, M⟩ := N
 rw [eW]
 clear eW
 simp only [List.set_cons_zero, List.set_cons_succ] at M
 have N := M.gset2 0 rfl (.int .i64 8) (.int .i64 0)
 clear M
 obtain ⟨W4, eW, M⟩ := N
 rw [eW]
 clear eW
 simp only [List.set_cons_zero] at M
 obtain ⟨tS, Ab, Aa⟩ := M.q2 0 rfl
 obtain ⟨tR, Ae, Ag, Ad, Af, Ac⟩ := M.q5 1 rfl
 exact bodyPost_ret (v := .tuple #[.agg #[.slice none 0 0, .slice none 0 0, .slice none 0 0, .int .i64 0, .bool false], .agg #[.int .i64 8, .int .i64 0]]) (by simp [results, Tryz.results73, go_sem, Ae, Ag, Ad, Af, Ac, Ab, Aa]) rfl ⟨none, none, none, 0, 0, 0, rfl, ⟨OwnR.nil_ _ _ _ _ _, OwnR.nil_ _ _ _ _ _, OwnR.nil_ _ _ _ _ _⟩, M.below⟩
set_option maxHeartbeats 4000000 in
theorem l6Done_yes (a b c d e : Int) (ts : List T7) (ks : List Int) (fs : List F2) (A0 A1 A2 : Option Addr) (c0 c1 c2 : Nat) (tn : Int) (st : Bool) (tsx : List T7) (ksx : List Int) (fsx : List F2) (A0x A1x A2x : Option Addr) (c0x c1x c2x : Nat) (tnx : Int) (stx : Bool) (rp ou : Int) (w : World) (ho : poolB a b c d e ts ks fs tn = true) (hz : poolB a b c d e tsx ksx fsx tnx = true) (ht : ts.length ≤ 1048576) (hk : ks.length ≤ 1048576) (hf : fs.length ≤ 1048576) (htx : tsx.length ≤ 1048576) (hkx : ksx.length ≤ 1048576) (hfx : fsx.length ≤ 1048576) (h : InPool w ts ks fs A0 A1 A2) (hx : InPool w tsx ksx fsx A0x A1x A2x) :
 Calls Tryz.prog 74 #[.agg #[.int .i64 a, .int .i64 b, .int .i64 c, .int .i64 d, .int .i64 e], .agg #[.slice A0 ts.length c0, .slice A1 ks.length c1, .slice A2 fs.length c2, .int .i64 tn, .bool st], .agg #[.slice A0x tsx.length c0x, .slice A1x ksx.length c1x, .slice A2x fsx.length c2x, .int .i64 tnx, .bool stx], .int .i64 rp, .int .i64 ou] w (fun r w' => r = .returned (.tuple #[.agg #[.slice A0x tsx.length c0x, .slice A1x ksx.length c1x, .slice A2x fsx.length c2x, .int .i64 tnx, .bool stx], .agg #[.int .i64 rp, .int .i64 ou]]) ∧ Below w.heap.size w w') := by
 have H := hide h
 have HX := hide hx
 have HZ := hide hz
 have HO := hide ho
 clear h hx hz ho
 go_enter Tryz.func74, Tryz.ntmps74
 go_wp2_with fail
 generalize hW : ((((w.alloc _).alloc _).alloc _).alloc _).alloc _ = W1
 have M := Sep.e5 hW
 clear hW
 obtain ⟨tY, Ay, Bc, Aw, Az, Bg, Av, Ba, As, Au, At⟩ := M.f5 2 rfl
 obtain ⟨tX, Ao, Ah, An, Aq, Ap⟩ := M.q5 3 rfl
 obtain ⟨tP, Ai, Ak, Aj, Am, Al⟩ := M.q5 4 rfl
 go_wp2_with fail
 go_call (sPoolOk_v a b c d e tsx ksx fsx A0x A1x A2x c0x c1x c2x tnx stx true HZ.out _ htx hkx hfx (HX.out.below M.below)) as r W2 ⟨rfl, g1⟩
 clear tY Ay Bc Aw Az Bg Av Ba As Au At tX Ao Ah An Aq Ap tP Ai Ak Aj Am Al
 replace M := M.call g1
 clear g1
 obtain ⟨tY, Ay, Bc, Aw, Az, Bg, Av, Ba, As, Au, At⟩ := M.f5 2 rfl
 obtain ⟨tX, Ao, Ah, An, Aq, Ap⟩ := M.q5 3 rfl
 obtain ⟨tP, Ai, Ak, Aj, Am, Al⟩ := M.q5 4 rfl
 obtain ⟨tS, Ab, Ax, Aa, Bd⟩ := M.f2 0 rfl
 obtain ⟨tR, Ae, Bf, Ag, Bb, Ad, Ar, Af, Bh, Ac, Be⟩ := M.f5 1 rfl
 go_wp2_with fail
 clear tY Ay Bc Aw Az Bg Av Ba As Au At tX Ao Ah An Aq Ap tP Ai Ak Aj Am Al tS Ab Ax Aa Bd tR Ae Bf Ag Bb Ad Ar Af Bh Ac Be
 have N := M.gset5 1 rfl (.slice A0x tsx.length c0x) (.slice A1x ksx.length c1x) (.slice A2x fsx.length c2x) (.int .i64 tnx) (.bool stx)
 clear M
 obtain ⟨W3, eW, M⟩ := N
 rw [eW]
 clear eW
 simp only [List.set_cons_zero, List.set_cons_succ] at M
 have N := M.gset2 0 rfl (.int .i64 rp) (.int .i64 ou)
 clear M
 obtain ⟨W4, eW, M⟩ := N
 rw [eW]
 clear eW
 simp only [List.set_cons_zero] at M
 obtain ⟨tS, Ab, Aa⟩ := M.q2 0 rfl
 obtain ⟨tR, Ae, Ag, Ad, Af, Ac⟩ := M.q5 1 rfl
 exact bodyPost_ret (v := .tuple #[.agg #[.slice A0x tsx.length c0x, .slice A1x ksx.length c1x, .slice A2x fsx.length c2x, .int .i64 tnx, .bool stx], .agg #[.int .i64 rp, .int .i64 ou]]) (by simp [results, Tryz.results74, go_sem, Ae, Ag, Ad, Af, Ac, Ab, Aa]) rfl ⟨rfl, M.below⟩
set_option maxHeartbeats 4000000 in
theorem l6Done_full (a b c d e : Int) (ts : List T7) (ks : List Int) (fs : List F2) (A0 A1 A2 : Option Addr) (c0 c1 c2 : Nat) (tn : Int) (st : Bool) (tsx : List T7) (ksx : List Int) (fsx : List F2) (A0x A1x A2x : Option Addr) (c0x c1x c2x : Nat) (tnx : Int) (stx : Bool) (rp ou : Int) (w : World) (ho : poolB a b c d e ts ks fs tn = true) (hz : poolB a b c d e tsx ksx fsx tnx = false) (ht : ts.length ≤ 1048576) (hk : ks.length ≤ 1048576) (hf : fs.length ≤ 1048576) (htx : tsx.length ≤ 1048576) (hkx : ksx.length ≤ 1048576) (hfx : fsx.length ≤ 1048576) (h : InPool w ts ks fs A0 A1 A2) (hx : InPool w tsx ksx fsx A0x A1x A2x) :
 Calls Tryz.prog 74 #[.agg #[.int .i64 a, .int .i64 b, .int .i64 c, .int .i64 d, .int .i64 e], .agg #[.slice A0 ts.length c0, .slice A1 ks.length c1, .slice A2 fs.length c2, .int .i64 tn, .bool st], .agg #[.slice A0x tsx.length c0x, .slice A1x ksx.length c1x, .slice A2x fsx.length c2x, .int .i64 tnx, .bool stx], .int .i64 rp, .int .i64 ou] w (GavePA w ts ks fs tn st 4 0) := by
 have H := hide h
 have HX := hide hx
 have HZ := hide hz
 have HO := hide ho
 clear h hx hz ho
 go_enter Tryz.func74, Tryz.ntmps74
 go_wp2_with fail
 generalize hW : ((((w.alloc _).alloc _).alloc _).alloc _).alloc _ = W1
 have M := Sep.e5 hW
 clear hW
 obtain ⟨tY, Ay, Bc, Aw, Az, Bg, Av, Ba, As, Au, At⟩ := M.f5 2 rfl
 obtain ⟨tX, Ao, Ah, An, Aq, Ap⟩ := M.q5 3 rfl
 obtain ⟨tP, Ai, Ak, Aj, Am, Al⟩ := M.q5 4 rfl
 go_wp2_with fail
 go_call (sPoolOk_v a b c d e tsx ksx fsx A0x A1x A2x c0x c1x c2x tnx stx false HZ.out _ htx hkx hfx (HX.out.below M.below)) as r W2 ⟨rfl, g1⟩
 clear tY Ay Bc Aw Az Bg Av Ba As Au At tX Ao Ah An Aq Ap tP Ai Ak Aj Am Al
 replace M := M.call g1
 clear g1
 obtain ⟨tY, Ay, Bc, Aw, Az, Bg, Av, Ba, As, Au, At⟩ := M.f5 2 rfl
 obtain ⟨tX, Ao, Ah, An, Aq, Ap⟩ := M.q5 3 rfl
 obtain ⟨tP, Ai, Ak, Aj, Am, Al⟩ := M.q5 4 rfl
 go_wp2_with fail
 go_call (l6No_yes a b c d e ts ks fs A0 A1 A2 c0 c1 c2 tn st 4 _ HO.out ht hk hf (H.out.below M.below)) as r W3 ⟨B0, B1, B2, d0, d1, d2, rfl, g1, g2⟩
 clear tY Ay Bc Aw Az Bg Av Ba As Au At tX Ao Ah An Aq Ap tP Ai Ak Aj Am Al
 replace M := Sep.new M (sepPool' (Nat.le_refl _) g2 g1)
 simp only [List.cons_append, List.nil_append] at M
 clear g1 g2
 obtain ⟨tS, Ab, Ax, Aa, Bd⟩ := M.f2 3 rfl
 obtain ⟨tR, Ae, Bf, Ag, Bb, Ad, Ar, Af, Bh, Ac, Be⟩ := M.f5 4 rfl
 go_wp2_with fail
 clear tS Ab Ax Aa Bd tR Ae Bf Ag Bb Ad Ar Af Bh Ac Be
 have N := M.gset5 4 rfl (.slice B0 ts.length d0) (.slice B1 ks.length d1) (.slice B2 fs.length d2) (.int .i64 tn) (.bool st)
 clear M
 obtain ⟨W4, eW, M⟩ := N
 rw [eW]
 clear eW
 simp only [List.set_cons_zero, List.set_cons_succ] at M
 have N := M.gset2 3 rfl (.int .i64 4) (.int .i64 0)
 clear M
 obtain ⟨W5, eW, M⟩ := N
 rw [eW]
 clear eW
 simp only [List.set_cons_zero, List.set_cons_succ] at M
 obtain ⟨tS, Ab, Aa⟩ := M.q2 3 rfl
 obtain ⟨tR, Ae, Ag, Ad, Af, Ac⟩ := M.q5 4 rfl
 exact bodyPost_ret (v := .tuple #[.agg #[.slice B0 ts.length d0, .slice B1 ks.length d1, .slice B2 fs.length d2, .int .i64 tn, .bool st], .agg #[.int .i64 4, .int .i64 0]]) (by simp [results, Tryz.results74, go_sem, Ae, Ag, Ad, Af, Ac, Ab, Aa]) rfl ⟨B0, B1, B2, d0, d1, d2, rfl, ⟨M.ownR 0 rfl, M.ownR 1 rfl, M.ownR 2 rfl⟩, M.below⟩
/-- A pool and an answer. -/
structure OutP where
 ts : List T7
 ks : List Int
 fs : List F2
 tn : Int
 st : Bool
 rp : Int
 ou : Int
/-- The pool as it is beside a reply; the zero one where it is not right. -/
def noO (z : Bool) (ts : List T7) (ks : List Int) (fs : List F2) (tn : Int) (st : Bool) (rp : Int) : OutP := if z then ⟨ts, ks, fs, tn, st, rp, 0⟩ else ⟨[], [], [], 0, false, 8, 0⟩
/-- A new pool and an answer, in memory between lo and the heap's end. -/
def GaveO (lo : Nat) (w : World) (o : OutP) (r : Ending) (w' : World) : Prop :=
 ∃ (B0 B1 B2 : Option Addr) (d0 d1 d2 : Nat), r = .returned (.tuple #[.agg #[.slice B0 o.ts.length d0, .slice B1 o.ks.length d1, .slice B2 o.fs.length d2, .int .i64 o.tn, .bool o.st], .agg #[.int .i64 o.rp, .int .i64 o.ou]]) ∧ OwnPool w' lo w'.heap.size o.ts o.ks o.fs B0 B1 B2 d0 d1 d2 ∧ Below w.heap.size w w'
theorem l6No_any (a b c d e : Int) (ts : List T7) (ks : List Int) (fs : List F2) (A0 A1 A2 : Option Addr) (c0 c1 c2 : Nat) (tn : Int) (st : Bool) (rp : Int) (w : World) (ht : ts.length ≤ 1048576) (hk : ks.length ≤ 1048576) (hf : fs.length ≤ 1048576) (h : InPool w ts ks fs A0 A1 A2) :
 Calls Tryz.prog 73 #[.agg #[.int .i64 a, .int .i64 b, .int .i64 c, .int .i64 d, .int .i64 e], .agg #[.slice A0 ts.length c0, .slice A1 ks.length c1, .slice A2 fs.length c2, .int .i64 tn, .bool st], .int .i64 rp] w (GaveO w.heap.size w (noO (poolB a b c d e ts ks fs tn) ts ks fs tn st rp)) := by
 by_cases hz : poolB a b c d e ts ks fs tn = true
 ·rw [hz]
  exact l6No_yes a b c d e ts ks fs A0 A1 A2 c0 c1 c2 tn st rp w hz ht hk hf h
 ·have hz' : poolB a b c d e ts ks fs tn = false := by simpa using hz
  rw [hz']
  exact l6No_no a b c d e ts ks fs A0 A1 A2 c0 c1 c2 tn st rp w hz' ht hk hf h
/-- A changed pool with its answer, where it is right; else the old one, and no turn was left. -/
def doneO (z : Bool) (ts : List T7) (ks : List Int) (fs : List F2) (tn : Int) (st : Bool) (tsx : List T7) (ksx : List Int) (fsx : List F2) (tnx : Int) (stx : Bool) (rp ou : Int) : OutP := if z then ⟨tsx, ksx, fsx, tnx, stx, rp, ou⟩ else ⟨ts, ks, fs, tn, st, 4, 0⟩
/-- What is answered under 'may' is right. -/
theorem doneO_right {a b c d e : Int} {ts : List T7} {ks : List Int} {fs : List F2} {tn : Int} {st : Bool} {tsx : List T7} {ksx : List Int} {fsx : List F2} {tnx : Int} {stx : Bool} {rp ou : Int} (ho : poolB a b c d e ts ks fs tn = true) :
 let o := doneO (poolB a b c d e tsx ksx fsx tnx) ts ks fs tn st tsx ksx fsx tnx stx rp ou
 poolB a b c d e o.ts o.ks o.fs o.tn = true := by
 intro o
 by_cases hz : poolB a b c d e tsx ksx fsx tnx = true
 ·have : o = ⟨tsx, ksx, fsx, tnx, stx, rp, ou⟩ := by simp [o, doneO, hz]
  rw [this]; exact hz
 ·have : o = ⟨ts, ks, fs, tn, st, 4, 0⟩ := by simp [o, doneO, hz]
  rw [this]; exact ho
theorem noO_right {a b c d e : Int} {ts : List T7} {ks : List Int} {fs : List F2} {tn : Int} {st : Bool} {rp : Int} (ho : poolB a b c d e ts ks fs tn = true) :
 let o := noO (poolB a b c d e ts ks fs tn) ts ks fs tn st rp
 poolB a b c d e o.ts o.ks o.fs o.tn = true := by
 intro o
 have : o = ⟨ts, ks, fs, tn, st, rp, 0⟩ := by simp [o, noO, ho]
 rw [this]; exact ho
end Go.Proofs.YtfjgelegojbmgaaGreat
