import Derived.Test.YtfkdfkoigojciaaGreatDoorQU06
import Derived.Test.YtfkdfkoigojciaaGreatDoorQU09
import Derived.Test.YtfkdfkoigojciaaGreatDoorQU03
import Derived.Test.YtfkdfkoigojciaaGreatDoorQU02

namespace Go.Proofs.YtfkdfkoigojciaaGreatDoor
open Go.RowKit
set_option linter.unusedVariables false
set_option maxHeartbeats 4000000
set_option maxRecDepth 100000
variable (a b c d e : Int) (ts : List T7) (ks : List Int) (fs : List F2) (A0 A1 A2 : Option Addr) (c0 c1 c2 : Nat) (tn : Int) (st : Bool)
def GavePA (w : World) (ts : List T7) (ks : List Int) (fs : List F2) (tn : Int) (st : Bool) (rp ou : Int) (r : Ending) (w' : World) : Prop :=
 ∃ (A0 A1 A2 : Option Addr) (c0 c1 c2 : Nat), r = .returned (.tuple #[.agg #[.slice A0 ts.length c0, .slice A1 ks.length c1, .slice A2 fs.length c2, .int .i64 tn, .bool st], .agg #[.int .i64 rp, .int .i64 ou]]) ∧ OwnPool w' w.heap.size w'.heap.size ts ks fs A0 A1 A2 c0 c1 c2 ∧ Below w.heap.size w w'
theorem sPoolOk_v (z : Bool) (hz : poolB a b c d e ts ks fs tn = z) (w : World) (ht : ts.length ≤ 1048576) (hk : ks.length ≤ 1048576) (hf : fs.length ≤ 1048576) (h : InPool w ts ks fs A0 A1 A2) :
 Calls Tryz.prog 30 #[.agg #[.int .i64 a, .int .i64 b, .int .i64 c, .int .i64 d, .int .i64 e], .agg #[.slice A0 ts.length c0, .slice A1 ks.length c1, .slice A2 fs.length c2, .int .i64 tn, .bool st]] w fun r w' => r = .returned (.bool z) ∧ Below w.heap.size w w' := hz ▸ sPoolOk_any a b c d e ts ks fs A0 A1 A2 c0 c1 c2 tn st w ht hk hf h
theorem sepPool' {w W : World} {lo hi : Nat} {ts : List T7} {ks : List Int} {fs : List F2} {A0 A1 A2 : Option Addr} {c0 c1 c2 : Nat} (hlo : w.heap.size ≤ lo) (hb : Below w.heap.size w W) (h : OwnPool W lo hi ts ks fs A0 A1 A2 c0 c1 c2) : Sep [] w W [.row 45 7 (.slice A0 ts.length c0) ts.length (tcells ts), .row 2 1 (.slice A1 ks.length c1) ks.length (icells ks), .row 103 2 (.slice A2 fs.length c2) fs.length (fcells fs)] :=
 sepRows3 hlo hb h.1.1 h.2.1.1 h.2.2.1 (by decide) (by decide) (by decide)
theorem l6No_yes (rp : Int) (w : World) (hz : poolB a b c d e ts ks fs tn = true) (ht : ts.length ≤ 1048576) (hk : ks.length ≤ 1048576) (hf : fs.length ≤ 1048576) (h : InPool w ts ks fs A0 A1 A2) :
 Calls Tryz.prog 53 #[qF a b c d e, qP ts ks fs A0 A1 A2 c0 c1 c2 tn st, .int .i64 rp] w (GavePA w ts ks fs tn st rp 0) := by
 unfold qF qP
 have H := hide h
 have HZ := hide hz
 clear h hz
 go_enter Tryz.func53, Tryz.ntmps53
 go_wp2_with fail
 generalize hW : (((w.alloc _).alloc _).alloc _).alloc _ = W1
 have M := Sep.e4 hW
 clear hW
 obtain ⟨tX, Ao, Ak, Ap, Ai, Al⟩ := M.q5 2 rfl
 obtain ⟨tP, Am, Aj, Aq, An, Ah⟩ := M.q5 3 rfl
 go_wp2_with fail
 go_call (sPoolOk_v a b c d e ts ks fs A0 A1 A2 c0 c1 c2 tn st true HZ.out _ ht hk hf (H.out.below M.below)) as r W2 ⟨rfl, g1⟩
 clear tX Ao Ak Ap Ai Al tP Am Aj Aq An Ah
 replace M := M.call g1
 clear g1
 obtain ⟨tX, Ao, Ak, Ap, Ai, Al⟩ := M.q5 2 rfl
 obtain ⟨tP, Am, Aj, Aq, An, Ah⟩ := M.q5 3 rfl
 go_wp2_with fail
 go_call (l3Copy_any ts ks fs A0 A1 A2 c0 c1 c2 tn st _ ht hk hf (H.out.below M.below)) as r W3 ⟨B0, B1, B2, d0, d1, d2, rfl, g1, g2⟩
 clear tX Ao Ak Ap Ai Al tP Am Aj Aq An Ah
 replace M := Sep.new M (sepPool' (Nat.le_refl _) g2 g1)
 simp only [zC, zN] at M
 clear g1 g2
 obtain ⟨tS, Ac, Az, Ae, Au⟩ := M.f2 3 rfl
 obtain ⟨tR, Ag, Av, Af, Be, Ad, Bh, Aa, Bb, Ab, Ba⟩ := M.f5 4 rfl
 go_wp2_with fail
 clear tS Ac Az Ae Au tR Ag Av Af Be Ad Bh Aa Bb Ab Ba
 replace M := M.gset5 4 rfl (.slice B0 ts.length d0) (.slice B1 ks.length d1) (.slice B2 fs.length d2) (.int .i64 tn) (.bool st)
 obtain ⟨W4, eW, M⟩ := M
 rw [eW]
 clear eW
 simp only [zZ, zS] at M
 replace M := M.gset2 3 rfl (.int .i64 rp) (.int .i64 0)
 obtain ⟨W5, eW, M⟩ := M
 rw [eW]
 clear eW
 simp only [zZ, zS] at M
 obtain ⟨tS, Ac, Ae⟩ := M.q2 3 rfl
 obtain ⟨tR, Ag, Af, Ad, Aa, Ab⟩ := M.q5 4 rfl
 exact bodyPost_ret (v := .tuple #[.agg #[.slice B0 ts.length d0, .slice B1 ks.length d1, .slice B2 fs.length d2, .int .i64 tn, .bool st], .agg #[.int .i64 rp, .int .i64 0]]) (by simp [results, Tryz.results53, go_sem, Ag, Af, Ad, Aa, Ab, Ac, Ae]) rfl ⟨B0, B1, B2, d0, d1, d2, rfl, ⟨M.ownR 0 rfl, M.ownR 1 rfl, M.ownR 2 rfl⟩, M.below⟩
theorem l6No_no (rp : Int) (w : World) (hz : poolB a b c d e ts ks fs tn = false) (ht : ts.length ≤ 1048576) (hk : ks.length ≤ 1048576) (hf : fs.length ≤ 1048576) (h : InPool w ts ks fs A0 A1 A2) :
 Calls Tryz.prog 53 #[qF a b c d e, qP ts ks fs A0 A1 A2 c0 c1 c2 tn st, .int .i64 rp] w (GavePA w [] [] [] 0 false 8 0) := by
 unfold qF qP
 have H := hide h
 have HZ := hide hz
 clear h hz
 go_enter Tryz.func53, Tryz.ntmps53
 go_wp2_with fail
 generalize hW : (((w.alloc _).alloc _).alloc _).alloc _ = W1
 have M := Sep.e4 hW
 clear hW
 obtain ⟨tX, Ao, Ak, Ap, Ai, Al⟩ := M.q5 2 rfl
 obtain ⟨tP, Am, Aj, Aq, An, Ah⟩ := M.q5 3 rfl
 go_wp2_with fail
 go_call (sPoolOk_v a b c d e ts ks fs A0 A1 A2 c0 c1 c2 tn st false HZ.out _ ht hk hf (H.out.below M.below)) as r W2 ⟨rfl, g1⟩
 clear tX Ao Ak Ap Ai Al tP Am Aj Aq An Ah
 replace M := M.call g1
 clear g1
 obtain ⟨tS, Ac, Az, Ae, Au⟩ := M.f2 0 rfl
 obtain ⟨tR, Ag, Av, Af, Be, Ad, Bh, Aa, Bb, Ab, Ba⟩ := M.f5 1 rfl
 go_wp2_with fail
 clear tS Ac Az Ae Au tR Ag Av Af Be Ad Bh Aa Bb Ab Ba
 replace M := M.gset5 1 rfl (.slice none 0 0) (.slice none 0 0) (.slice none 0 0) (.int .i64 0) (.bool false)
 obtain ⟨W3, eW, M⟩ := M
 rw [eW]
 clear eW
 simp only [zZ, zS] at M
 replace M := M.gset2 0 rfl (.int .i64 8) (.int .i64 0)
 obtain ⟨W4, eW, M⟩ := M
 rw [eW]
 clear eW
 simp only [List.set_cons_zero] at M
 obtain ⟨tS, Ac, Ae⟩ := M.q2 0 rfl
 obtain ⟨tR, Ag, Af, Ad, Aa, Ab⟩ := M.q5 1 rfl
 exact bodyPost_ret (v := .tuple #[.agg #[.slice none 0 0, .slice none 0 0, .slice none 0 0, .int .i64 0, .bool false], .agg #[.int .i64 8, .int .i64 0]]) (by simp [results, Tryz.results53, go_sem, Ag, Af, Ad, Aa, Ab, Ac, Ae]) rfl ⟨none, none, none, 0, 0, 0, rfl, ⟨OwnR.nil_ _ _ _ _ _, OwnR.nil_ _ _ _ _ _, OwnR.nil_ _ _ _ _ _⟩, M.below⟩
theorem l6Done_yes (tsx : List T7) (ksx : List Int) (fsx : List F2) (A0x A1x A2x : Option Addr) (c0x c1x c2x : Nat) (tnx : Int) (stx : Bool) (rp ou : Int) (w : World) (ho : poolB a b c d e ts ks fs tn = true) (hz : poolB a b c d e tsx ksx fsx tnx = true) (ht : ts.length ≤ 1048576) (hk : ks.length ≤ 1048576) (hf : fs.length ≤ 1048576) (htx : tsx.length ≤ 1048576) (hkx : ksx.length ≤ 1048576) (hfx : fsx.length ≤ 1048576) (h : InPool w ts ks fs A0 A1 A2) (hx : InPool w tsx ksx fsx A0x A1x A2x) :
 Calls Tryz.prog 56 #[qF a b c d e, qP ts ks fs A0 A1 A2 c0 c1 c2 tn st, .agg #[.slice A0x tsx.length c0x, .slice A1x ksx.length c1x, .slice A2x fsx.length c2x, .int .i64 tnx, .bool stx], .int .i64 rp, .int .i64 ou] w (fun r w' => r = .returned (.tuple #[.agg #[.slice A0x tsx.length c0x, .slice A1x ksx.length c1x, .slice A2x fsx.length c2x, .int .i64 tnx, .bool stx], .agg #[.int .i64 rp, .int .i64 ou]]) ∧ Below w.heap.size w w') := by
 unfold qF qP
 have H := hide h
 have HX := hide hx
 have HZ := hide hz
 have HO := hide ho
 clear h hx hz ho
 go_enter Tryz.func56, Tryz.ntmps56
 go_wp2_with fail
 generalize hW : ((((w.alloc _).alloc _).alloc _).alloc _).alloc _ = W1
 have M := Sep.e5 hW
 clear hW
 obtain ⟨tY, As, Ay, Bf, Bc, Bg, Bd, Ax, Ar, Aw, At⟩ := M.f5 2 rfl
 obtain ⟨tX, Ao, Ak, Ap, Ai, Al⟩ := M.q5 3 rfl
 obtain ⟨tP, Am, Aj, Aq, An, Ah⟩ := M.q5 4 rfl
 go_wp2_with fail
 go_call (sPoolOk_v a b c d e tsx ksx fsx A0x A1x A2x c0x c1x c2x tnx stx true HZ.out _ htx hkx hfx (HX.out.below M.below)) as r W2 ⟨rfl, g1⟩
 clear tY As Ay Bf Bc Bg Bd Ax Ar Aw At tX Ao Ak Ap Ai Al tP Am Aj Aq An Ah
 replace M := M.call g1
 clear g1
 obtain ⟨tY, As, Ay, Bf, Bc, Bg, Bd, Ax, Ar, Aw, At⟩ := M.f5 2 rfl
 obtain ⟨tX, Ao, Ak, Ap, Ai, Al⟩ := M.q5 3 rfl
 obtain ⟨tP, Am, Aj, Aq, An, Ah⟩ := M.q5 4 rfl
 obtain ⟨tS, Ac, Az, Ae, Au⟩ := M.f2 0 rfl
 obtain ⟨tR, Ag, Av, Af, Be, Ad, Bh, Aa, Bb, Ab, Ba⟩ := M.f5 1 rfl
 go_wp2_with fail
 clear tY As Ay Bf Bc Bg Bd Ax Ar Aw At tX Ao Ak Ap Ai Al tP Am Aj Aq An Ah tS Ac Az Ae Au tR Ag Av Af Be Ad Bh Aa Bb Ab Ba
 replace M := M.gset5 1 rfl (.slice A0x tsx.length c0x) (.slice A1x ksx.length c1x) (.slice A2x fsx.length c2x) (.int .i64 tnx) (.bool stx)
 obtain ⟨W3, eW, M⟩ := M
 rw [eW]
 clear eW
 simp only [zZ, zS] at M
 replace M := M.gset2 0 rfl (.int .i64 rp) (.int .i64 ou)
 obtain ⟨W4, eW, M⟩ := M
 rw [eW]
 clear eW
 simp only [List.set_cons_zero] at M
 obtain ⟨tS, Ac, Ae⟩ := M.q2 0 rfl
 obtain ⟨tR, Ag, Af, Ad, Aa, Ab⟩ := M.q5 1 rfl
 exact bodyPost_ret (v := .tuple #[.agg #[.slice A0x tsx.length c0x, .slice A1x ksx.length c1x, .slice A2x fsx.length c2x, .int .i64 tnx, .bool stx], .agg #[.int .i64 rp, .int .i64 ou]]) (by simp [results, Tryz.results56, go_sem, Ag, Af, Ad, Aa, Ab, Ac, Ae]) rfl ⟨rfl, M.below⟩
theorem l6Done_full (tsx : List T7) (ksx : List Int) (fsx : List F2) (A0x A1x A2x : Option Addr) (c0x c1x c2x : Nat) (tnx : Int) (stx : Bool) (rp ou : Int) (w : World) (ho : poolB a b c d e ts ks fs tn = true) (hz : poolB a b c d e tsx ksx fsx tnx = false) (ht : ts.length ≤ 1048576) (hk : ks.length ≤ 1048576) (hf : fs.length ≤ 1048576) (htx : tsx.length ≤ 1048576) (hkx : ksx.length ≤ 1048576) (hfx : fsx.length ≤ 1048576) (h : InPool w ts ks fs A0 A1 A2) (hx : InPool w tsx ksx fsx A0x A1x A2x) :
 Calls Tryz.prog 56 #[qF a b c d e, qP ts ks fs A0 A1 A2 c0 c1 c2 tn st, .agg #[.slice A0x tsx.length c0x, .slice A1x ksx.length c1x, .slice A2x fsx.length c2x, .int .i64 tnx, .bool stx], .int .i64 rp, .int .i64 ou] w (GavePA w ts ks fs tn st 4 0) := by
 unfold qF qP
 have H := hide h
 have HX := hide hx
 have HZ := hide hz
 have HO := hide ho
 clear h hx hz ho
 go_enter Tryz.func56, Tryz.ntmps56
 go_wp2_with fail
 generalize hW : ((((w.alloc _).alloc _).alloc _).alloc _).alloc _ = W1
 have M := Sep.e5 hW
 clear hW
 obtain ⟨tY, As, Ay, Bf, Bc, Bg, Bd, Ax, Ar, Aw, At⟩ := M.f5 2 rfl
 obtain ⟨tX, Ao, Ak, Ap, Ai, Al⟩ := M.q5 3 rfl
 obtain ⟨tP, Am, Aj, Aq, An, Ah⟩ := M.q5 4 rfl
 go_wp2_with fail
 go_call (sPoolOk_v a b c d e tsx ksx fsx A0x A1x A2x c0x c1x c2x tnx stx false HZ.out _ htx hkx hfx (HX.out.below M.below)) as r W2 ⟨rfl, g1⟩
 clear tY As Ay Bf Bc Bg Bd Ax Ar Aw At tX Ao Ak Ap Ai Al tP Am Aj Aq An Ah
 replace M := M.call g1
 clear g1
 obtain ⟨tY, As, Ay, Bf, Bc, Bg, Bd, Ax, Ar, Aw, At⟩ := M.f5 2 rfl
 obtain ⟨tX, Ao, Ak, Ap, Ai, Al⟩ := M.q5 3 rfl
 obtain ⟨tP, Am, Aj, Aq, An, Ah⟩ := M.q5 4 rfl
 go_wp2_with fail
 go_call (l6No_yes a b c d e ts ks fs A0 A1 A2 c0 c1 c2 tn st 4 _ HO.out ht hk hf (H.out.below M.below)) as r W3 ⟨B0, B1, B2, d0, d1, d2, rfl, g1, g2⟩
 clear tY As Ay Bf Bc Bg Bd Ax Ar Aw At tX Ao Ak Ap Ai Al tP Am Aj Aq An Ah
 replace M := Sep.new M (sepPool' (Nat.le_refl _) g2 g1)
 simp only [zC, zN] at M
 clear g1 g2
 obtain ⟨tS, Ac, Az, Ae, Au⟩ := M.f2 3 rfl
 obtain ⟨tR, Ag, Av, Af, Be, Ad, Bh, Aa, Bb, Ab, Ba⟩ := M.f5 4 rfl
 go_wp2_with fail
 clear tS Ac Az Ae Au tR Ag Av Af Be Ad Bh Aa Bb Ab Ba
 replace M := M.gset5 4 rfl (.slice B0 ts.length d0) (.slice B1 ks.length d1) (.slice B2 fs.length d2) (.int .i64 tn) (.bool st)
 obtain ⟨W4, eW, M⟩ := M
 rw [eW]
 clear eW
 simp only [zZ, zS] at M
 replace M := M.gset2 3 rfl (.int .i64 4) (.int .i64 0)
 obtain ⟨W5, eW, M⟩ := M
 rw [eW]
 clear eW
 simp only [zZ, zS] at M
 obtain ⟨tS, Ac, Ae⟩ := M.q2 3 rfl
 obtain ⟨tR, Ag, Af, Ad, Aa, Ab⟩ := M.q5 4 rfl
 exact bodyPost_ret (v := .tuple #[.agg #[.slice B0 ts.length d0, .slice B1 ks.length d1, .slice B2 fs.length d2, .int .i64 tn, .bool st], .agg #[.int .i64 4, .int .i64 0]]) (by simp [results, Tryz.results56, go_sem, Ag, Af, Ad, Aa, Ab, Ac, Ae]) rfl ⟨B0, B1, B2, d0, d1, d2, rfl, ⟨M.ownR 0 rfl, M.ownR 1 rfl, M.ownR 2 rfl⟩, M.below⟩
structure OutP where
 ts : List T7
 ks : List Int
 fs : List F2
 tn : Int
 st : Bool
 rp : Int
 ou : Int
def noO (z : Bool) (ts : List T7) (ks : List Int) (fs : List F2) (tn : Int) (st : Bool) (rp : Int) : OutP := if z then ⟨ts, ks, fs, tn, st, rp, 0⟩ else ⟨[], [], [], 0, false, 8, 0⟩
def GaveO (lo : Nat) (w : World) (o : OutP) (r : Ending) (w' : World) : Prop :=
 ∃ (B0 B1 B2 : Option Addr) (d0 d1 d2 : Nat), r = .returned (.tuple #[.agg #[.slice B0 o.ts.length d0, .slice B1 o.ks.length d1, .slice B2 o.fs.length d2, .int .i64 o.tn, .bool o.st], .agg #[.int .i64 o.rp, .int .i64 o.ou]]) ∧ OwnPool w' lo w'.heap.size o.ts o.ks o.fs B0 B1 B2 d0 d1 d2 ∧ Below w.heap.size w w'
theorem l6No_any (rp : Int) (w : World) (ht : ts.length ≤ 1048576) (hk : ks.length ≤ 1048576) (hf : fs.length ≤ 1048576) (h : InPool w ts ks fs A0 A1 A2) :
 Calls Tryz.prog 53 #[qF a b c d e, qP ts ks fs A0 A1 A2 c0 c1 c2 tn st, .int .i64 rp] w (GaveO w.heap.size w (noO (poolB a b c d e ts ks fs tn) ts ks fs tn st rp)) := by
 unfold qF qP
 by_cases hz : poolB a b c d e ts ks fs tn = true
 ·rw [hz]
  exact l6No_yes a b c d e ts ks fs A0 A1 A2 c0 c1 c2 tn st rp w hz ht hk hf h
 ·have hz' : poolB a b c d e ts ks fs tn = false := by simpa using hz
  rw [hz']
  exact l6No_no a b c d e ts ks fs A0 A1 A2 c0 c1 c2 tn st rp w hz' ht hk hf h
def doneO (z : Bool) (ts : List T7) (ks : List Int) (fs : List F2) (tn : Int) (st : Bool) (tsx : List T7) (ksx : List Int) (fsx : List F2) (tnx : Int) (stx : Bool) (rp ou : Int) : OutP := if z then ⟨tsx, ksx, fsx, tnx, stx, rp, ou⟩ else ⟨ts, ks, fs, tn, st, 4, 0⟩
theorem doneO_right {a b c d e : Int} {ts : List T7} {ks : List Int} {fs : List F2} {tn : Int} {st : Bool} {tsx : List T7} {ksx : List Int} {fsx : List F2} {tnx : Int} {stx : Bool} {rp ou : Int} (ho : poolB a b c d e ts ks fs tn = true) :
 let o := doneO (poolB a b c d e tsx ksx fsx tnx) ts ks fs tn st tsx ksx fsx tnx stx rp ou
 poolB a b c d e o.ts o.ks o.fs o.tn = true := by
 intro o
 by_cases hz : poolB a b c d e tsx ksx fsx tnx = true
 ·have : o = ⟨tsx, ksx, fsx, tnx, stx, rp, ou⟩ := by simp [o, doneO, hz]
  rw [this]; exact hz
 ·have : o = ⟨ts, ks, fs, tn, st, 4, 0⟩ := by simp [o, doneO, hz]
  rw [this]; exact ho
theorem noO_right {a b c d e : Int} {ts : List T7} {ks : List Int} {fs : List F2} {tn : Int} {st : Bool} {rp : Int} (ho : poolB a b c d e ts ks fs tn = true) :
 let o := noO (poolB a b c d e ts ks fs tn) ts ks fs tn st rp
 poolB a b c d e o.ts o.ks o.fs o.tn = true := by
 intro o
 have : o = ⟨ts, ks, fs, tn, st, rp, 0⟩ := by simp [o, noO, ho]
 rw [this]; exact ho
set_option maxHeartbeats 4000000
set_option maxRecDepth 100000
def wakeT (t : T7) (tn v : Int) : T7 := ⟨1, t.l, t.o, 0, 0, v, tn⟩
def parkT (t : T7) (tn wt on : Int) : T7 := ⟨3, t.l, -1, wt, on, t.v, tn⟩
theorem l5Wake_any (ts : List T7) (A0 A1 A2 : Option Addr) (c0 n1 c1 n2 c2 : Nat) (tn : Int) (st : Bool) (k : Nat) (s l o wt on v0 t : Int) (v : Int) (lo hi : Nat) (w : World) (hhi : hi ≤ w.heap.size) (hlen : ts.length ≤ 1048576) (t0 : -1000000000 ≤ tn) (t1 : tn ≤ 1000000000) (ht : ts[k]? = some ⟨s, l, o, wt, on, v0, t⟩) (h : OwnR w lo hi 45 7 (.slice A0 ts.length c0) ts.length (tcells ts)) :
 Calls Tryz.prog 98 #[.agg #[.slice A0 ts.length c0, .slice A1 n1 c1, .slice A2 n2 c2, .int .i64 tn, .bool st], .int .i64 k, .int .i64 v] w fun r w' => r = .returned (.agg #[.slice A0 ts.length c0, .slice A1 n1 c1, .slice A2 n2 c2, .int .i64 (tn + 1), .bool st]) ∧ OwnR w' lo hi 45 7 (.slice A0 ts.length c0) ts.length (tcells (ts.set k (wakeT ⟨s, l, o, wt, on, v0, t⟩ tn v))) ∧ Within lo hi w w' := by
 have hk : k < ts.length := by
  rcases Nat.lt_or_ge k ts.length with h1 | h1
  ·exact h1
  ·rw [List.getElem?_eq_none h1] at ht; cases ht
 obtain ⟨g, cap, hv, _, hgl⟩ := h.1.form (by omega)
 injection hv with hA _ hc
 subst hA hc
 obtain ⟨hg1, hg2⟩ : lo ≤ g ∧ g < hi := ⟨(h.1.lt g rfl).1, h.2 g rfl⟩
 obtain ⟨s', l', o', wt', on', v', t', ht', y0, y1, y2, y3, y4, y5, y6⟩ := Own.t7 h.1 hk
 rw [ht] at ht'
 injection ht' with ht'
 injection ht' with u0 u1 u2 u3 u4 u5 u6
 subst u0 u1 u2 u3 u4 u5 u6
 have rT := h
 have fz0 : w.frozen? ⟨g, k * 7, none⟩ = false := Own.fz h.1 _
 have fz1 : w.frozen? ⟨g, k * 7 + 1, none⟩ = false := Own.fz h.1 _
 have fz2 : w.frozen? ⟨g, k * 7 + 2, none⟩ = false := Own.fz h.1 _
 have fz3 : w.frozen? ⟨g, k * 7 + 3, none⟩ = false := Own.fz h.1 _
 have fz4 : w.frozen? ⟨g, k * 7 + 4, none⟩ = false := Own.fz h.1 _
 have fz5 : w.frozen? ⟨g, k * 7 + 5, none⟩ = false := Own.fz h.1 _
 have fz6 : w.frozen? ⟨g, k * 7 + 6, none⟩ = false := Own.fz h.1 _
 have hgl2 : g < w.heap.size := hgl
 have hgl3 : g < w.heap.size + 1 := by omega
 have hgl4 : g < w.heap.size + 1 + 1 := by omega
 have hgl5 : g < w.heap.size + 1 + 1 + 1 := by omega
 clear ht h
 go_enter Tryz.func98, Tryz.ntmps98
 go_wp2_with fail
 have G := Within.refl lo hi w
 replace rT : OwnR (((((((w.setCell ⟨g, k * 7, none⟩ (.int .i64 1)).setCell ⟨g, k * 7 + 1, none⟩ (.int .i64 l)).setCell ⟨g, k * 7 + 2, none⟩ (.int .i64 o)).setCell ⟨g, k * 7 + 3, none⟩ (.int .i64 0)).setCell ⟨g, k * 7 + 4, none⟩ (.int .i64 0)).setCell ⟨g, k * 7 + 5, none⟩ (.int .i64 v)).setCell ⟨g, k * 7 + 6, none⟩ (.int .i64 tn)) _ _ _ _ _ _ _ := ⟨Own.put7 rT.1 k 1 l o 0 0 v tn, rT.2⟩
 replace G := (Within.setIn (Within.setIn (Within.setIn (Within.setIn (Within.setIn (Within.setIn (Within.setIn G (p := ⟨g, k * 7, none⟩) (show lo ≤ g ∧ g < hi by omega) (.int .i64 1)) (p := ⟨g, k * 7 + 1, none⟩) (show lo ≤ g ∧ g < hi by omega) (.int .i64 l)) (p := ⟨g, k * 7 + 2, none⟩) (show lo ≤ g ∧ g < hi by omega) (.int .i64 o)) (p := ⟨g, k * 7 + 3, none⟩) (show lo ≤ g ∧ g < hi by omega) (.int .i64 0)) (p := ⟨g, k * 7 + 4, none⟩) (show lo ≤ g ∧ g < hi by omega) (.int .i64 0)) (p := ⟨g, k * 7 + 5, none⟩) (show lo ≤ g ∧ g < hi by omega) (.int .i64 v)) (p := ⟨g, k * 7 + 6, none⟩) (show lo ≤ g ∧ g < hi by omega) (.int .i64 tn))
 have z1 : ((((((((w.setCell ⟨g, k * 7, none⟩ (.int .i64 1)).setCell ⟨g, k * 7 + 1, none⟩ (.int .i64 l)).setCell ⟨g, k * 7 + 2, none⟩ (.int .i64 o)).setCell ⟨g, k * 7 + 3, none⟩ (.int .i64 0)).setCell ⟨g, k * 7 + 4, none⟩ (.int .i64 0)).setCell ⟨g, k * 7 + 5, none⟩ (.int .i64 v)).setCell ⟨g, k * 7 + 6, none⟩ (.int .i64 tn))).heap.size = w.heap.size := by simp [World.setCell]
 generalize ((((((w.setCell ⟨g, k * 7, none⟩ (.int .i64 1)).setCell ⟨g, k * 7 + 1, none⟩ (.int .i64 l)).setCell ⟨g, k * 7 + 2, none⟩ (.int .i64 o)).setCell ⟨g, k * 7 + 3, none⟩ (.int .i64 0)).setCell ⟨g, k * 7 + 4, none⟩ (.int .i64 0)).setCell ⟨g, k * 7 + 5, none⟩ (.int .i64 v)).setCell ⟨g, k * 7 + 6, none⟩ (.int .i64 tn) = W1 at rT G z1 ⊢
 have kX : Blk (W1.alloc (.cells #[.slice (some ⟨g, 0, none⟩) ts.length c0, .slice A1 n1 c1, .slice A2 n2 c2, .int .i64 (tn + 1), .bool st] 35)) (w.heap.size) 35 #[.slice (some ⟨g, 0, none⟩) ts.length c0, .slice A1 n1 c1, .slice A2 n2 c2, .int .i64 (tn + 1), .bool st] := by
  have h := Blk.new W1 35 #[.slice (some ⟨g, 0, none⟩) ts.length c0, .slice A1 n1 c1, .slice A2 n2 c2, .int .i64 (tn + 1), .bool st]
  rw [show W1.heap.size = w.heap.size by omega] at h
  exact h
 replace rT := rT.alloc (.cells #[.slice (some ⟨g, 0, none⟩) ts.length c0, .slice A1 n1 c1, .slice A2 n2 c2, .int .i64 (tn + 1), .bool st] 35)
 have hbs := G.size
 replace G := G.alloc (by omega) (.cells #[.slice (some ⟨g, 0, none⟩) ts.length c0, .slice A1 n1 c1, .slice A2 n2 c2, .int .i64 (tn + 1), .bool st] 35)
 have z2 : (W1.alloc (.cells #[.slice (some ⟨g, 0, none⟩) ts.length c0, .slice A1 n1 c1, .slice A2 n2 c2, .int .i64 (tn + 1), .bool st] 35)).heap.size = W1.heap.size + 1 := by simp
 clear hbs
 generalize W1.alloc (.cells #[.slice (some ⟨g, 0, none⟩) ts.length c0, .slice A1 n1 c1, .slice A2 n2 c2, .int .i64 (tn + 1), .bool st] 35) = W2 at kX rT G z2 ⊢
 have kR : Blk (W2.alloc (.cells #[.slice (some ⟨g, 0, none⟩) ts.length c0, .slice A1 n1 c1, .slice A2 n2 c2, .int .i64 (tn + 1), .bool st] 35)) (w.heap.size + 1) 35 #[.slice (some ⟨g, 0, none⟩) ts.length c0, .slice A1 n1 c1, .slice A2 n2 c2, .int .i64 (tn + 1), .bool st] := by
  have h := Blk.new W2 35 #[.slice (some ⟨g, 0, none⟩) ts.length c0, .slice A1 n1 c1, .slice A2 n2 c2, .int .i64 (tn + 1), .bool st]
  rw [show W2.heap.size = w.heap.size + 1 by omega] at h
  exact h
 replace kX := kX.alloc (.cells #[.slice (some ⟨g, 0, none⟩) ts.length c0, .slice A1 n1 c1, .slice A2 n2 c2, .int .i64 (tn + 1), .bool st] 35)
 replace rT := rT.alloc (.cells #[.slice (some ⟨g, 0, none⟩) ts.length c0, .slice A1 n1 c1, .slice A2 n2 c2, .int .i64 (tn + 1), .bool st] 35)
 have hbs := G.size
 replace G := G.alloc (by omega) (.cells #[.slice (some ⟨g, 0, none⟩) ts.length c0, .slice A1 n1 c1, .slice A2 n2 c2, .int .i64 (tn + 1), .bool st] 35)
 have z3 : (W2.alloc (.cells #[.slice (some ⟨g, 0, none⟩) ts.length c0, .slice A1 n1 c1, .slice A2 n2 c2, .int .i64 (tn + 1), .bool st] 35)).heap.size = W2.heap.size + 1 := by simp
 clear hbs
 generalize W2.alloc (.cells #[.slice (some ⟨g, 0, none⟩) ts.length c0, .slice A1 n1 c1, .slice A2 n2 c2, .int .i64 (tn + 1), .bool st] 35) = W3 at kX kR rT G z3 ⊢
 have kT : Blk (W3.alloc (.cells #[.int .i64 1, .int .i64 l, .int .i64 o, .int .i64 0, .int .i64 0, .int .i64 v, .int .i64 tn] 45)) (w.heap.size + 2) 45 #[.int .i64 1, .int .i64 l, .int .i64 o, .int .i64 0, .int .i64 0, .int .i64 v, .int .i64 tn] := by
  have h := Blk.new W3 45 #[.int .i64 1, .int .i64 l, .int .i64 o, .int .i64 0, .int .i64 0, .int .i64 v, .int .i64 tn]
  rw [show W3.heap.size = w.heap.size + 2 by omega] at h
  exact h
 replace kX := kX.alloc (.cells #[.int .i64 1, .int .i64 l, .int .i64 o, .int .i64 0, .int .i64 0, .int .i64 v, .int .i64 tn] 45)
 replace kR := kR.alloc (.cells #[.int .i64 1, .int .i64 l, .int .i64 o, .int .i64 0, .int .i64 0, .int .i64 v, .int .i64 tn] 45)
 replace rT := rT.alloc (.cells #[.int .i64 1, .int .i64 l, .int .i64 o, .int .i64 0, .int .i64 0, .int .i64 v, .int .i64 tn] 45)
 have hbs := G.size
 replace G := G.alloc (by omega) (.cells #[.int .i64 1, .int .i64 l, .int .i64 o, .int .i64 0, .int .i64 0, .int .i64 v, .int .i64 tn] 45)
 have z4 : (W3.alloc (.cells #[.int .i64 1, .int .i64 l, .int .i64 o, .int .i64 0, .int .i64 0, .int .i64 v, .int .i64 tn] 45)).heap.size = W3.heap.size + 1 := by simp
 clear hbs
 generalize W3.alloc (.cells #[.int .i64 1, .int .i64 l, .int .i64 o, .int .i64 0, .int .i64 0, .int .i64 v, .int .i64 tn] 45) = W4 at kX kR kT rT G z4 ⊢
 have tR : w.heap.size + 1 < W4.heap.size := kR.lt
 have qR0 : W4.cell? ⟨w.heap.size + 1, 0, none⟩ = some (.slice (some ⟨g, 0, none⟩) ts.length c0) := kR.cell 0
 have qR1 : W4.cell? ⟨w.heap.size + 1, 1, none⟩ = some (.slice A1 n1 c1) := kR.cell 1
 have qR2 : W4.cell? ⟨w.heap.size + 1, 2, none⟩ = some (.slice A2 n2 c2) := kR.cell 2
 have qR3 : W4.cell? ⟨w.heap.size + 1, 3, none⟩ = some (.int .i64 (tn + 1)) := kR.cell 3
 have qR4 : W4.cell? ⟨w.heap.size + 1, 4, none⟩ = some (.bool st) := kR.cell 4
 exact bodyPost_ret (v := .agg #[.slice (some ⟨g, 0, none⟩) ts.length c0, .slice A1 n1 c1, .slice A2 n2 c2, .int .i64 (tn + 1), .bool st]) (by simp [results, Tryz.results98, go_sem, qR0, qR1, qR2, qR3, qR4]) rfl ⟨rfl, rT, G⟩
theorem l5Park_any (ts : List T7) (A0 A1 A2 : Option Addr) (c0 n1 c1 n2 c2 : Nat) (tn : Int) (st : Bool) (k : Nat) (s l o wt on v0 t : Int) (pw po : Int) (lo hi : Nat) (w : World) (hhi : hi ≤ w.heap.size) (hlen : ts.length ≤ 1048576) (t0 : -1000000000 ≤ tn) (t1 : tn ≤ 1000000000) (ht : ts[k]? = some ⟨s, l, o, wt, on, v0, t⟩) (h : OwnR w lo hi 45 7 (.slice A0 ts.length c0) ts.length (tcells ts)) :
 Calls Tryz.prog 74 #[.agg #[.slice A0 ts.length c0, .slice A1 n1 c1, .slice A2 n2 c2, .int .i64 tn, .bool st], .int .i64 k, .int .i64 pw, .int .i64 po] w fun r w' => r = .returned (.agg #[.slice A0 ts.length c0, .slice A1 n1 c1, .slice A2 n2 c2, .int .i64 (tn + 1), .bool st]) ∧ OwnR w' lo hi 45 7 (.slice A0 ts.length c0) ts.length (tcells (ts.set k (parkT ⟨s, l, o, wt, on, v0, t⟩ tn pw po))) ∧ Within lo hi w w' := by
 have hk : k < ts.length := by
  rcases Nat.lt_or_ge k ts.length with h1 | h1
  ·exact h1
  ·rw [List.getElem?_eq_none h1] at ht; cases ht
 obtain ⟨g, cap, hv, _, hgl⟩ := h.1.form (by omega)
 injection hv with hA _ hc
 subst hA hc
 obtain ⟨hg1, hg2⟩ : lo ≤ g ∧ g < hi := ⟨(h.1.lt g rfl).1, h.2 g rfl⟩
 obtain ⟨s', l', o', wt', on', v', t', ht', y0, y1, y2, y3, y4, y5, y6⟩ := Own.t7 h.1 hk
 rw [ht] at ht'
 injection ht' with ht'
 injection ht' with u0 u1 u2 u3 u4 u5 u6
 subst u0 u1 u2 u3 u4 u5 u6
 have rT := h
 have fz0 : w.frozen? ⟨g, k * 7, none⟩ = false := Own.fz h.1 _
 have fz1 : w.frozen? ⟨g, k * 7 + 1, none⟩ = false := Own.fz h.1 _
 have fz2 : w.frozen? ⟨g, k * 7 + 2, none⟩ = false := Own.fz h.1 _
 have fz3 : w.frozen? ⟨g, k * 7 + 3, none⟩ = false := Own.fz h.1 _
 have fz4 : w.frozen? ⟨g, k * 7 + 4, none⟩ = false := Own.fz h.1 _
 have fz5 : w.frozen? ⟨g, k * 7 + 5, none⟩ = false := Own.fz h.1 _
 have fz6 : w.frozen? ⟨g, k * 7 + 6, none⟩ = false := Own.fz h.1 _
 have hgl2 : g < w.heap.size := hgl
 have hgl3 : g < w.heap.size + 1 := by omega
 have hgl4 : g < w.heap.size + 1 + 1 := by omega
 have hgl5 : g < w.heap.size + 1 + 1 + 1 := by omega
 clear ht h
 go_enter Tryz.func74, Tryz.ntmps74
 go_wp2_with fail
 have G := Within.refl lo hi w
 replace rT : OwnR (((((((w.setCell ⟨g, k * 7, none⟩ (.int .i64 3)).setCell ⟨g, k * 7 + 1, none⟩ (.int .i64 l)).setCell ⟨g, k * 7 + 2, none⟩ (.int .i64 (-1))).setCell ⟨g, k * 7 + 3, none⟩ (.int .i64 pw)).setCell ⟨g, k * 7 + 4, none⟩ (.int .i64 po)).setCell ⟨g, k * 7 + 5, none⟩ (.int .i64 v0)).setCell ⟨g, k * 7 + 6, none⟩ (.int .i64 tn)) _ _ _ _ _ _ _ := ⟨Own.put7 rT.1 k 3 l (-1) pw po v0 tn, rT.2⟩
 replace G := (Within.setIn (Within.setIn (Within.setIn (Within.setIn (Within.setIn (Within.setIn (Within.setIn G (p := ⟨g, k * 7, none⟩) (show lo ≤ g ∧ g < hi by omega) (.int .i64 3)) (p := ⟨g, k * 7 + 1, none⟩) (show lo ≤ g ∧ g < hi by omega) (.int .i64 l)) (p := ⟨g, k * 7 + 2, none⟩) (show lo ≤ g ∧ g < hi by omega) (.int .i64 (-1))) (p := ⟨g, k * 7 + 3, none⟩) (show lo ≤ g ∧ g < hi by omega) (.int .i64 pw)) (p := ⟨g, k * 7 + 4, none⟩) (show lo ≤ g ∧ g < hi by omega) (.int .i64 po)) (p := ⟨g, k * 7 + 5, none⟩) (show lo ≤ g ∧ g < hi by omega) (.int .i64 v0)) (p := ⟨g, k * 7 + 6, none⟩) (show lo ≤ g ∧ g < hi by omega) (.int .i64 tn))
 have z1 : ((((((((w.setCell ⟨g, k * 7, none⟩ (.int .i64 3)).setCell ⟨g, k * 7 + 1, none⟩ (.int .i64 l)).setCell ⟨g, k * 7 + 2, none⟩ (.int .i64 (-1))).setCell ⟨g, k * 7 + 3, none⟩ (.int .i64 pw)).setCell ⟨g, k * 7 + 4, none⟩ (.int .i64 po)).setCell ⟨g, k * 7 + 5, none⟩ (.int .i64 v0)).setCell ⟨g, k * 7 + 6, none⟩ (.int .i64 tn))).heap.size = w.heap.size := by simp [World.setCell]
 generalize ((((((w.setCell ⟨g, k * 7, none⟩ (.int .i64 3)).setCell ⟨g, k * 7 + 1, none⟩ (.int .i64 l)).setCell ⟨g, k * 7 + 2, none⟩ (.int .i64 (-1))).setCell ⟨g, k * 7 + 3, none⟩ (.int .i64 pw)).setCell ⟨g, k * 7 + 4, none⟩ (.int .i64 po)).setCell ⟨g, k * 7 + 5, none⟩ (.int .i64 v0)).setCell ⟨g, k * 7 + 6, none⟩ (.int .i64 tn) = W1 at rT G z1 ⊢
 have kX : Blk (W1.alloc (.cells #[.slice (some ⟨g, 0, none⟩) ts.length c0, .slice A1 n1 c1, .slice A2 n2 c2, .int .i64 (tn + 1), .bool st] 35)) (w.heap.size) 35 #[.slice (some ⟨g, 0, none⟩) ts.length c0, .slice A1 n1 c1, .slice A2 n2 c2, .int .i64 (tn + 1), .bool st] := by
  have h := Blk.new W1 35 #[.slice (some ⟨g, 0, none⟩) ts.length c0, .slice A1 n1 c1, .slice A2 n2 c2, .int .i64 (tn + 1), .bool st]
  rw [show W1.heap.size = w.heap.size by omega] at h
  exact h
 replace rT := rT.alloc (.cells #[.slice (some ⟨g, 0, none⟩) ts.length c0, .slice A1 n1 c1, .slice A2 n2 c2, .int .i64 (tn + 1), .bool st] 35)
 have hbs := G.size
 replace G := G.alloc (by omega) (.cells #[.slice (some ⟨g, 0, none⟩) ts.length c0, .slice A1 n1 c1, .slice A2 n2 c2, .int .i64 (tn + 1), .bool st] 35)
 have z2 : (W1.alloc (.cells #[.slice (some ⟨g, 0, none⟩) ts.length c0, .slice A1 n1 c1, .slice A2 n2 c2, .int .i64 (tn + 1), .bool st] 35)).heap.size = W1.heap.size + 1 := by simp
 clear hbs
 generalize W1.alloc (.cells #[.slice (some ⟨g, 0, none⟩) ts.length c0, .slice A1 n1 c1, .slice A2 n2 c2, .int .i64 (tn + 1), .bool st] 35) = W2 at kX rT G z2 ⊢
 have kR : Blk (W2.alloc (.cells #[.slice (some ⟨g, 0, none⟩) ts.length c0, .slice A1 n1 c1, .slice A2 n2 c2, .int .i64 (tn + 1), .bool st] 35)) (w.heap.size + 1) 35 #[.slice (some ⟨g, 0, none⟩) ts.length c0, .slice A1 n1 c1, .slice A2 n2 c2, .int .i64 (tn + 1), .bool st] := by
  have h := Blk.new W2 35 #[.slice (some ⟨g, 0, none⟩) ts.length c0, .slice A1 n1 c1, .slice A2 n2 c2, .int .i64 (tn + 1), .bool st]
  rw [show W2.heap.size = w.heap.size + 1 by omega] at h
  exact h
 replace kX := kX.alloc (.cells #[.slice (some ⟨g, 0, none⟩) ts.length c0, .slice A1 n1 c1, .slice A2 n2 c2, .int .i64 (tn + 1), .bool st] 35)
 replace rT := rT.alloc (.cells #[.slice (some ⟨g, 0, none⟩) ts.length c0, .slice A1 n1 c1, .slice A2 n2 c2, .int .i64 (tn + 1), .bool st] 35)
 have hbs := G.size
 replace G := G.alloc (by omega) (.cells #[.slice (some ⟨g, 0, none⟩) ts.length c0, .slice A1 n1 c1, .slice A2 n2 c2, .int .i64 (tn + 1), .bool st] 35)
 have z3 : (W2.alloc (.cells #[.slice (some ⟨g, 0, none⟩) ts.length c0, .slice A1 n1 c1, .slice A2 n2 c2, .int .i64 (tn + 1), .bool st] 35)).heap.size = W2.heap.size + 1 := by simp
 clear hbs
 generalize W2.alloc (.cells #[.slice (some ⟨g, 0, none⟩) ts.length c0, .slice A1 n1 c1, .slice A2 n2 c2, .int .i64 (tn + 1), .bool st] 35) = W3 at kX kR rT G z3 ⊢
 have kT : Blk (W3.alloc (.cells #[.int .i64 3, .int .i64 l, .int .i64 (-1), .int .i64 pw, .int .i64 po, .int .i64 v0, .int .i64 tn] 45)) (w.heap.size + 2) 45 #[.int .i64 3, .int .i64 l, .int .i64 (-1), .int .i64 pw, .int .i64 po, .int .i64 v0, .int .i64 tn] := by
  have h := Blk.new W3 45 #[.int .i64 3, .int .i64 l, .int .i64 (-1), .int .i64 pw, .int .i64 po, .int .i64 v0, .int .i64 tn]
  rw [show W3.heap.size = w.heap.size + 2 by omega] at h
  exact h
 replace kX := kX.alloc (.cells #[.int .i64 3, .int .i64 l, .int .i64 (-1), .int .i64 pw, .int .i64 po, .int .i64 v0, .int .i64 tn] 45)
 replace kR := kR.alloc (.cells #[.int .i64 3, .int .i64 l, .int .i64 (-1), .int .i64 pw, .int .i64 po, .int .i64 v0, .int .i64 tn] 45)
 replace rT := rT.alloc (.cells #[.int .i64 3, .int .i64 l, .int .i64 (-1), .int .i64 pw, .int .i64 po, .int .i64 v0, .int .i64 tn] 45)
 have hbs := G.size
 replace G := G.alloc (by omega) (.cells #[.int .i64 3, .int .i64 l, .int .i64 (-1), .int .i64 pw, .int .i64 po, .int .i64 v0, .int .i64 tn] 45)
 have z4 : (W3.alloc (.cells #[.int .i64 3, .int .i64 l, .int .i64 (-1), .int .i64 pw, .int .i64 po, .int .i64 v0, .int .i64 tn] 45)).heap.size = W3.heap.size + 1 := by simp
 clear hbs
 generalize W3.alloc (.cells #[.int .i64 3, .int .i64 l, .int .i64 (-1), .int .i64 pw, .int .i64 po, .int .i64 v0, .int .i64 tn] 45) = W4 at kX kR kT rT G z4 ⊢
 have tR : w.heap.size + 1 < W4.heap.size := kR.lt
 have qR0 : W4.cell? ⟨w.heap.size + 1, 0, none⟩ = some (.slice (some ⟨g, 0, none⟩) ts.length c0) := kR.cell 0
 have qR1 : W4.cell? ⟨w.heap.size + 1, 1, none⟩ = some (.slice A1 n1 c1) := kR.cell 1
 have qR2 : W4.cell? ⟨w.heap.size + 1, 2, none⟩ = some (.slice A2 n2 c2) := kR.cell 2
 have qR3 : W4.cell? ⟨w.heap.size + 1, 3, none⟩ = some (.int .i64 (tn + 1)) := kR.cell 3
 have qR4 : W4.cell? ⟨w.heap.size + 1, 4, none⟩ = some (.bool st) := kR.cell 4
 exact bodyPost_ret (v := .agg #[.slice (some ⟨g, 0, none⟩) ts.length c0, .slice A1 n1 c1, .slice A2 n2 c2, .int .i64 (tn + 1), .bool st]) (by simp [results, Tryz.results74, go_sem, qR0, qR1, qR2, qR3, qR4]) rfl ⟨rfl, rT, G⟩
theorem l5Has_any (ts : List T7) (A0 A1 A2 : Option Addr) (c0 n1 c1 n2 c2 : Nat) (tn : Int) (st : Bool) (id : Int) (w : World) (hlen : ts.length ≤ 1048576) :
 Calls Tryz.prog 71 #[.agg #[.slice A0 ts.length c0, .slice A1 n1 c1, .slice A2 n2 c2, .int .i64 tn, .bool st], .int .i64 id] w fun r w' => r = .returned (.bool (btw id 0 (ts.length - 1))) ∧ Below w.heap.size w w' := by
 go_enter Tryz.func71, Tryz.ntmps71
 go_wp2_with fail
 go_call (l1In_any _ _ _ _) as r w1 ⟨rfl, rfl⟩
 go_wp2_with fail
 go_ret
 exact ⟨rfl, by go_grown⟩
end Go.Proofs.YtfkdfkoigojciaaGreatDoor
