import Derived.Test.YtfkdfkoigojciaaGreatDoorQU12
import Derived.Test.YtfkdfkoigojciaaGreatDoorQU09
import Derived.Test.YtfkdfkoigojciaaGreatDoorQU04
import Derived.Deep.RegionHeld3
import Derived.Deep.RegionLaw
import Derived.BigRegion

namespace Go.Proofs.YtfkdfkoigojciaaGreatDoor
open Go.RowKit
set_option linter.unusedVariables false
set_option maxHeartbeats 4000000
set_option maxRecDepth 100000
variable (a b c d e : Int) (ts : List T7) (ks : List Int) (fs : List F2) (A0 A1 A2 : Option Addr) (c0 c1 c2 : Nat) (tn : Int) (st : Bool)
theorem spawned_may (wk : Int) (lv : Int) (w : World) (ht : ts.length ≤ 1048576) (hk : ks.length ≤ 1048576) (hf : fs.length ≤ 1048576) (h : InPool w ts ks fs A0 A1 A2) (hm : mayB a b c d e ts ks fs tn wk = false) :
 Calls Tryz.prog 16 #[qF a b c d e, qP ts ks fs A0 A1 A2 c0 c1 c2 tn st, .int .i64 wk, .int .i64 lv] w (GaveS [] w (noO (poolB a b c d e ts ks fs tn) ts ks fs tn st 8)) := by
 unfold qF qP
 have H := hide h
 clear h
 have hNo := hide (fun V => l6No_s a b c d e ts ks fs A0 A1 A2 c0 c1 c2 tn st 8 V ht hk hf)
 generalize noO (poolB a b c d e ts ks fs tn) ts ks fs tn st 8 = o at hNo ⊢
 have HY := hide (⟨hm, trivial⟩ : _ ∧ True)
 clear hm
 go_enter Tryz.func16, Tryz.ntmps16
 go_wp2_with fail
 generalize hW : (((w.alloc _).alloc _).alloc _).alloc _ = W1
 have M := Sep.e4 hW
 clear hW
 obtain ⟨tX, Ah, Ad, Ai, Ab, Ae⟩ := M.q5 2 rfl
 obtain ⟨tP, Af, Ac, Aj, Ag, Aa⟩ := M.q5 3 rfl
 go_call (l6May_v a b c d e ts ks fs A0 A1 A2 c0 c1 c2 tn st wk false HY.out.1 _ ht hk hf (H.out.below M.below)) as r W2 ⟨rfl, g1⟩
 clear tX Ah Ad Ai Ab Ae tP Af Ac Aj Ag Aa
 replace M := M.call g1
 clear g1
 obtain ⟨tX, Ah, Ad, Ai, Ab, Ae⟩ := M.q5 2 rfl
 obtain ⟨tP, Af, Ac, Aj, Ag, Aa⟩ := M.q5 3 rfl
 go_wp2_with fail
 go_call (hNo.out _ (H.out.below M.below)) as r W3 ⟨B0, B1, B2, d0, d1, d2, rfl, g1⟩
 clear tX Ah Ad Ai Ab Ae tP Af Ac Aj Ag Aa
 replace M := Sep.new M g1
 simp only [zC, zN] at M
 clear g1
 obtain ⟨tS, Am, At, Ao, Ar⟩ := M.f2 3 rfl
 obtain ⟨tR, Aq, As, Ap, Aw, An, Ax, Ak, Av, Al, Au⟩ := M.f5 4 rfl
 go_wp2_with fail
 clear tS Am At Ao Ar tR Aq As Ap Aw An Ax Ak Av Al Au
 replace M := M.gset5 4 rfl (.slice B0 o.ts.length d0) (.slice B1 o.ks.length d1) (.slice B2 o.fs.length d2) (.int .i64 o.tn) (.bool o.st)
 obtain ⟨W4, eW, M⟩ := M
 rw [eW]
 clear eW
 simp only [zZ, zS] at M
 replace M := M.gset2 3 rfl (.int .i64 o.rp) (.int .i64 o.ou)
 obtain ⟨W5, eW, M⟩ := M
 rw [eW]
 clear eW
 simp only [zZ, zS] at M
 obtain ⟨tS, Am, Ao⟩ := M.q2 3 rfl
 obtain ⟨tR, Aq, Ap, An, Ak, Al⟩ := M.q5 4 rfl
 exact bodyPost_ret (by simp [results, Tryz.results16, go_sem, Aq, Ap, An, Ak, Al, Am, Ao]) rfl ⟨B0, B1, B2, d0, d1, d2, rfl, M.take 3⟩
theorem spawned_lev (wk : Int) (lv : Int) (w : World) (ht : ts.length ≤ 1048576) (hk : ks.length ≤ 1048576) (hf : fs.length ≤ 1048576) (h : InPool w ts ks fs A0 A1 A2) (hm : mayB a b c d e ts ks fs tn wk = true) (hl : levelB a b c d e lv = false) :
 Calls Tryz.prog 16 #[qF a b c d e, qP ts ks fs A0 A1 A2 c0 c1 c2 tn st, .int .i64 wk, .int .i64 lv] w (GaveS [] w (noO (poolB a b c d e ts ks fs tn) ts ks fs tn st 8)) := by
 unfold qF qP
 have H := hide h
 clear h
 have hNo := hide (fun V => l6No_s a b c d e ts ks fs A0 A1 A2 c0 c1 c2 tn st 8 V ht hk hf)
 generalize noO (poolB a b c d e ts ks fs tn) ts ks fs tn st 8 = o at hNo ⊢
 have HY := hide (⟨hm, hl, trivial⟩ : _ ∧ _ ∧ True)
 clear hm hl
 go_enter Tryz.func16, Tryz.ntmps16
 go_wp2_with fail
 generalize hW : (((w.alloc _).alloc _).alloc _).alloc _ = W1
 have M := Sep.e4 hW
 clear hW
 obtain ⟨tX, Ah, Ad, Ai, Ab, Ae⟩ := M.q5 2 rfl
 obtain ⟨tP, Af, Ac, Aj, Ag, Aa⟩ := M.q5 3 rfl
 go_call (l6May_v a b c d e ts ks fs A0 A1 A2 c0 c1 c2 tn st wk true HY.out.1 _ ht hk hf (H.out.below M.below)) as r W2 ⟨rfl, g1⟩
 clear tX Ah Ad Ai Ab Ae tP Af Ac Aj Ag Aa
 replace M := M.call g1
 clear g1
 obtain ⟨tX, Ah, Ad, Ai, Ab, Ae⟩ := M.q5 2 rfl
 obtain ⟨tP, Af, Ac, Aj, Ag, Aa⟩ := M.q5 3 rfl
 go_wp2_with fail
 go_call (sLevelIn_v a b c d e lv false HY.out.2.1 _) as r W3 ⟨rfl, g1⟩
 clear tX Ah Ad Ai Ab Ae tP Af Ac Aj Ag Aa
 replace M := M.call g1
 clear g1
 obtain ⟨tX, Ah, Ad, Ai, Ab, Ae⟩ := M.q5 2 rfl
 obtain ⟨tP, Af, Ac, Aj, Ag, Aa⟩ := M.q5 3 rfl
 go_wp2_with fail
 go_call (hNo.out _ (H.out.below M.below)) as r W4 ⟨B0, B1, B2, d0, d1, d2, rfl, g1⟩
 clear tX Ah Ad Ai Ab Ae tP Af Ac Aj Ag Aa
 replace M := Sep.new M g1
 simp only [zC, zN] at M
 clear g1
 obtain ⟨tS, Am, At, Ao, Ar⟩ := M.f2 3 rfl
 obtain ⟨tR, Aq, As, Ap, Aw, An, Ax, Ak, Av, Al, Au⟩ := M.f5 4 rfl
 go_wp2_with fail
 clear tS Am At Ao Ar tR Aq As Ap Aw An Ax Ak Av Al Au
 replace M := M.gset5 4 rfl (.slice B0 o.ts.length d0) (.slice B1 o.ks.length d1) (.slice B2 o.fs.length d2) (.int .i64 o.tn) (.bool o.st)
 obtain ⟨W5, eW, M⟩ := M
 rw [eW]
 clear eW
 simp only [zZ, zS] at M
 replace M := M.gset2 3 rfl (.int .i64 o.rp) (.int .i64 o.ou)
 obtain ⟨W6, eW, M⟩ := M
 rw [eW]
 clear eW
 simp only [zZ, zS] at M
 obtain ⟨tS, Am, Ao⟩ := M.q2 3 rfl
 obtain ⟨tR, Aq, Ap, An, Ak, Al⟩ := M.q5 4 rfl
 exact bodyPost_ret (by simp [results, Tryz.results16, go_sem, Aq, Ap, An, Ak, Al, Am, Ao]) rfl ⟨B0, B1, B2, d0, d1, d2, rfl, M.take 3⟩
theorem spawned_stop (a b c d e : Int) (ts : List T7) (ks : List Int) (fs : List F2) (A0 A1 A2 : Option Addr) (c0 c1 c2 : Nat) (tn : Int) (wk : Int) (lv : Int) (w : World) (ht : ts.length ≤ 1048576) (hk : ks.length ≤ 1048576) (hf : fs.length ≤ 1048576) (h : InPool w ts ks fs A0 A1 A2) (hm : mayB a b c d e ts ks fs tn wk = true) (hl : levelB a b c d e lv = true) :
 Calls Tryz.prog 16 #[qF a b c d e, qP ts ks fs A0 A1 A2 c0 c1 c2 tn true, .int .i64 wk, .int .i64 lv] w (GaveS [] w (noO (poolB a b c d e ts ks fs tn) ts ks fs tn true 6)) := by
 unfold qF qP
 have H := hide h
 clear h
 have hNo := hide (fun (V : World) (hV : InPool V ts ks fs A0 A1 A2) => l6No_s a b c d e ts ks fs A0 A1 A2 c0 c1 c2 tn true 6 V ht hk hf hV)
 generalize noO (poolB a b c d e ts ks fs tn) ts ks fs tn true 6 = o at hNo ⊢
 have HY := hide (⟨hm, hl, trivial⟩ : _ ∧ _ ∧ True)
 clear hm hl
 go_enter Tryz.func16, Tryz.ntmps16
 go_wp2_with fail
 generalize hW : (((w.alloc _).alloc _).alloc _).alloc _ = W1
 have M := Sep.e4 hW
 clear hW
 obtain ⟨tX, Ah, Ad, Ai, Ab, Ae⟩ := M.q5 2 rfl
 obtain ⟨tP, Af, Ac, Aj, Ag, Aa⟩ := M.q5 3 rfl
 go_call (l6May_v a b c d e ts ks fs A0 A1 A2 c0 c1 c2 tn true wk true HY.out.1 _ ht hk hf (H.out.below M.below)) as r W2 ⟨rfl, g1⟩
 clear tX Ah Ad Ai Ab Ae tP Af Ac Aj Ag Aa
 replace M := M.call g1
 clear g1
 obtain ⟨tX, Ah, Ad, Ai, Ab, Ae⟩ := M.q5 2 rfl
 obtain ⟨tP, Af, Ac, Aj, Ag, Aa⟩ := M.q5 3 rfl
 go_wp2_with fail
 go_call (sLevelIn_v a b c d e lv true HY.out.2.1 _) as r W3 ⟨rfl, g1⟩
 clear tX Ah Ad Ai Ab Ae tP Af Ac Aj Ag Aa
 replace M := M.call g1
 clear g1
 obtain ⟨tX, Ah, Ad, Ai, Ab, Ae⟩ := M.q5 2 rfl
 obtain ⟨tP, Af, Ac, Aj, Ag, Aa⟩ := M.q5 3 rfl
 go_wp2_with fail
 go_call (hNo.out _ (H.out.below M.below)) as r W4 ⟨B0, B1, B2, d0, d1, d2, rfl, g1⟩
 clear tX Ah Ad Ai Ab Ae tP Af Ac Aj Ag Aa
 replace M := Sep.new M g1
 simp only [zC, zN] at M
 clear g1
 obtain ⟨tS, Am, At, Ao, Ar⟩ := M.f2 3 rfl
 obtain ⟨tR, Aq, As, Ap, Aw, An, Ax, Ak, Av, Al, Au⟩ := M.f5 4 rfl
 go_wp2_with fail
 clear tS Am At Ao Ar tR Aq As Ap Aw An Ax Ak Av Al Au
 replace M := M.gset5 4 rfl (.slice B0 o.ts.length d0) (.slice B1 o.ks.length d1) (.slice B2 o.fs.length d2) (.int .i64 o.tn) (.bool o.st)
 obtain ⟨W5, eW, M⟩ := M
 rw [eW]
 clear eW
 simp only [zZ, zS] at M
 replace M := M.gset2 3 rfl (.int .i64 o.rp) (.int .i64 o.ou)
 obtain ⟨W6, eW, M⟩ := M
 rw [eW]
 clear eW
 simp only [zZ, zS] at M
 obtain ⟨tS, Am, Ao⟩ := M.q2 3 rfl
 obtain ⟨tR, Aq, Ap, An, Ak, Al⟩ := M.q5 4 rfl
 exact bodyPost_ret (by simp [results, Tryz.results16, go_sem, Aq, Ap, An, Ak, Al, Am, Ao]) rfl ⟨B0, B1, B2, d0, d1, d2, rfl, M.take 3⟩
theorem spawned_full (a b c d e : Int) (ts : List T7) (ks : List Int) (fs : List F2) (A0 A1 A2 : Option Addr) (c0 c1 c2 : Nat) (tn : Int) (wk : Int) (lv : Int) (w : World) (ht : ts.length ≤ 1048576) (hk : ks.length ≤ 1048576) (hf : fs.length ≤ 1048576) (h : InPool w ts ks fs A0 A1 A2) (hm : mayB a b c d e ts ks fs tn wk = true) (hl : levelB a b c d e lv = true) (hb : b ≤ ts.length) :
 Calls Tryz.prog 16 #[qF a b c d e, qP ts ks fs A0 A1 A2 c0 c1 c2 tn false, .int .i64 wk, .int .i64 lv] w (GaveS [] w (noO (poolB a b c d e ts ks fs tn) ts ks fs tn false 4)) := by
 unfold qF qP
 have H := hide h
 clear h
 have hNo := hide (fun (V : World) (hV : InPool V ts ks fs A0 A1 A2) => l6No_s a b c d e ts ks fs A0 A1 A2 c0 c1 c2 tn false 4 V ht hk hf hV)
 generalize noO (poolB a b c d e ts ks fs tn) ts ks fs tn false 4 = o at hNo ⊢
 have HY := hide (⟨hm, hl, trivial⟩ : _ ∧ _ ∧ True)
 clear hm hl
 go_enter Tryz.func16, Tryz.ntmps16
 go_wp2_with fail
 generalize hW : (((w.alloc _).alloc _).alloc _).alloc _ = W1
 have M := Sep.e4 hW
 clear hW
 obtain ⟨tX, Ah, Ad, Ai, Ab, Ae⟩ := M.q5 2 rfl
 obtain ⟨tP, Af, Ac, Aj, Ag, Aa⟩ := M.q5 3 rfl
 go_call (l6May_v a b c d e ts ks fs A0 A1 A2 c0 c1 c2 tn false wk true HY.out.1 _ ht hk hf (H.out.below M.below)) as r W2 ⟨rfl, g1⟩
 clear tX Ah Ad Ai Ab Ae tP Af Ac Aj Ag Aa
 replace M := M.call g1
 clear g1
 obtain ⟨tX, Ah, Ad, Ai, Ab, Ae⟩ := M.q5 2 rfl
 obtain ⟨tP, Af, Ac, Aj, Ag, Aa⟩ := M.q5 3 rfl
 go_wp2_with fail
 go_call (sLevelIn_v a b c d e lv true HY.out.2.1 _) as r W3 ⟨rfl, g1⟩
 clear tX Ah Ad Ai Ab Ae tP Af Ac Aj Ag Aa
 replace M := M.call g1
 clear g1
 obtain ⟨tX, Ah, Ad, Ai, Ab, Ae⟩ := M.q5 2 rfl
 obtain ⟨tP, Af, Ac, Aj, Ag, Aa⟩ := M.q5 3 rfl
 go_wp2_with fail
 go_call (hNo.out _ (H.out.below M.below)) as r W4 ⟨B0, B1, B2, d0, d1, d2, rfl, g1⟩
 clear tX Ah Ad Ai Ab Ae tP Af Ac Aj Ag Aa
 replace M := Sep.new M g1
 simp only [zC, zN] at M
 clear g1
 obtain ⟨tS, Am, At, Ao, Ar⟩ := M.f2 3 rfl
 obtain ⟨tR, Aq, As, Ap, Aw, An, Ax, Ak, Av, Al, Au⟩ := M.f5 4 rfl
 go_wp2_with fail
 clear tS Am At Ao Ar tR Aq As Ap Aw An Ax Ak Av Al Au
 replace M := M.gset5 4 rfl (.slice B0 o.ts.length d0) (.slice B1 o.ks.length d1) (.slice B2 o.fs.length d2) (.int .i64 o.tn) (.bool o.st)
 obtain ⟨W5, eW, M⟩ := M
 rw [eW]
 clear eW
 simp only [zZ, zS] at M
 replace M := M.gset2 3 rfl (.int .i64 o.rp) (.int .i64 o.ou)
 obtain ⟨W6, eW, M⟩ := M
 rw [eW]
 clear eW
 simp only [zZ, zS] at M
 obtain ⟨tS, Am, Ao⟩ := M.q2 3 rfl
 obtain ⟨tR, Aq, Ap, An, Ak, Al⟩ := M.q5 4 rfl
 exact bodyPost_ret (by simp [results, Tryz.results16, go_sem, Aq, Ap, An, Ak, Al, Am, Ao]) rfl ⟨B0, B1, B2, d0, d1, d2, rfl, M.take 3⟩
def Res.ty : Res → TypeId
 | .blk _ t _ => t
 | .row e _ _ _ _ => e
theorem Res.here.tyAt {W : World} {r : Res} {g : Nat} (h : r.here W) (hg : r.fp = some g) : ∃ cs, W.heap[g]? = some (.cells cs r.ty (0, 0)) := by
 cases r with
 | blk g' t cs => injection hg with hg; subst hg; exact ⟨cs, h⟩
 | row e size v n xs =>
  rcases h.2 with ⟨h2, _⟩ | ⟨g', cap, cur, hv, _, hh, _⟩
  ·subst h2; cases hg
  ·subst hv
   injection hg with hg
   subst hg
   exact ⟨cur, hh⟩
theorem Sep.grow {w W W' : World} {rs : List Res} {e : TypeId} {size n n' : Nat} {v v' : Value} {xs xs' : List Value} (h : Sep [] w W (.row e size v n xs :: rs)) (hg : W.grownBy W' v.ownBlock) (hr : W'.ownsRow w.heap.size e size v' n' xs') (ht : (rs.all fun r => r.ty != e) = true) : Sep [] w W' (.row e size v' n' xs' :: rs) := by
 have hap := List.pairwise_cons.1 h.apart
 have hh : ∀ r ∈ rs, r.here W' := fun r hr' => (h.here r (List.mem_cons_of_mem _ hr')).keep fun g hgr => hg.block g ((h.here r (List.mem_cons_of_mem _ hr')).lt hgr) (fun e' => hap.1 r hr' g e'.symm hgr)
 refine ⟨hg.os.trans h.os, hg.tape.trans h.tape, hg.output.trans h.output, Nat.le_trans h.size hg.size, fun b hb _ => ?_, ?_, ?_, List.pairwise_cons.2 ⟨fun r hr' g h1 h2 => ?_, hap.2⟩⟩
 ·refine (hg.block b (Nat.lt_of_lt_of_le hb h.size) (fun e' => ?_)).trans (h.block b hb (by simp))
  rcases h.own _ (List.mem_cons_self) b e'.symm with h1 | h1
  ·simp at h1
  ·omega
 ·intro r hr'
  rcases List.mem_cons.1 hr' with rfl | hr'
  ·exact Own.lower hr (Nat.zero_le _)
  ·exact hh r hr'
 ·intro r hr' g hgr
  rcases List.mem_cons.1 hr' with rfl | hr'
  ·exact .inr (World.ownsRow.lt hr g hgr).1
  ·exact h.own r (List.mem_cons_of_mem _ hr') g hgr
 ·obtain ⟨c1, e1⟩ := Res.here.tyAt (W := W') (r := .row e size v' n' xs') (Own.lower hr (Nat.zero_le _)) h1
  obtain ⟨c2, e2⟩ := (hh r hr').tyAt h2
  rw [e1] at e2
  injection e2 with e2
  injection e2 with _ e3 _
  have := List.all_eq_true.1 ht r hr'
  simp only [bne_iff_ne] at this
  exact this e3.symm
theorem rowLit7 (w : World) (t : TypeId) (v0 v1 v2 v3 v4 v5 v6 : Value) : Row (w.alloc (.cells #[v0, v1, v2, v3, v4, v5, v6] t)) (some ⟨w.heap.size, 0, none⟩) [v0, v1, v2, v3, v4, v5, v6] :=
 Row.of_own (World.ownsRow_lit (base := 0) (e := t) (size := 7) w #[v0, v1, v2, v3, v4, v5, v6] 1 (Nat.zero_le _) (by simp [maxLen]) (by simp))
theorem tcells_snoc (ts : List T7) (x : T7) : tcells ts ++ x.cs = tcells (ts ++ [x]) := by simp [tcells]
set_option maxRecDepth 100000 in
set_option maxHeartbeats 4000000 in
theorem spawned_main (a b c d e : Int) (ts : List T7) (ks : List Int) (fs : List F2) (A0 A1 A2 : Option Addr) (c0 c1 c2 : Nat) (tn : Int) (wk : Int) (lv : Int) (w : World) (ht : ts.length ≤ 1048576) (hk : ks.length ≤ 1048576) (hf : fs.length ≤ 1048576) (h : InPool w ts ks fs A0 A1 A2) (hm : mayB a b c d e ts ks fs tn wk = true) (hl : levelB a b c d e lv = true) (hb : ¬ b ≤ ts.length) :
 Calls Tryz.prog 16 #[qF a b c d e, qP ts ks fs A0 A1 A2 c0 c1 c2 tn false, .int .i64 wk, .int .i64 lv] w (GaveS [] w (doneO (poolB a b c d e (ts ++ [⟨1, lv, -1, 0, 0, 0, tn⟩]) ks fs (tn + 1)) ts ks fs tn false (ts ++ [⟨1, lv, -1, 0, 0, 0, tn⟩]) ks fs (tn + 1) false 1 (ts.length : Nat))) := by
 unfold qF qP
 have H := hide h
 clear h
 have hpo : poolB a b c d e ts ks fs tn = true := by
  have h1 := hm
  simp only [mayB, Bool.and_eq_true] at h1
  exact h1.1
 have tb : 0 ≤ tn ∧ tn ≤ 1000000 := by
  have h1 := hpo
  simp only [poolB, Bool.and_eq_true] at h1
  have h2 := h1.2.1
  simp [btw] at h2
  exact h2
 obtain ⟨tb0, tb1⟩ := tb
 have hlb : ts.length + 1 ≤ 1048576 := by
  have h1 := hpo
  simp only [poolB, Bool.and_eq_true] at h1
  have h2 := h1.1
  clear h1 hpo
  simp [planB, btw] at h2
  omega
 have hDn := hide (fun (A0x A1x A2x : Option Addr) (c0x c1x c2x : Nat) (rs : List Res) (V : World) (h1 : InPool V ts ks fs A0 A1 A2) (h2 : Sep [] w V ([rT (ts.length + 1) A0x c0x (ts ++ [⟨1, lv, -1, 0, 0, 0, tn⟩]), rK ks.length A1x c1x ks, rF fs.length A2x c2x fs] ++ rs)) => l6Done_s a b c d e ts ks fs A0 A1 A2 c0 c1 c2 tn false (ts.length + 1) ks.length fs.length (ts ++ [⟨1, lv, -1, 0, 0, 0, tn⟩]) ks fs A0x A1x A2x c0x c1x c2x ((tn + 1)) false 1 ((ts.length : Nat)) V (by simp) rfl rfl hpo ht hk hf hlb hk hf h1 h2)
 clear hpo
 generalize doneO (poolB a b c d e (ts ++ [⟨1, lv, -1, 0, 0, 0, tn⟩]) ks fs (tn + 1)) ts ks fs tn false (ts ++ [⟨1, lv, -1, 0, 0, 0, tn⟩]) ks fs (tn + 1) false 1 (ts.length : Nat) = o at hDn ⊢
 obtain ⟨i2, ji, jz0, jz1, jz2⟩ := info_parts infoTask
 have HY := hide (⟨hm, hl, trivial⟩ : _ ∧ _ ∧ True)
 clear hm hl
 go_enter Tryz.func16, Tryz.ntmps16
 go_wp2_with fail
 generalize hW : (((w.alloc _).alloc _).alloc _).alloc _ = W1
 have M := Sep.e4 hW
 clear hW
 obtain ⟨tX, Ah, Ad, Ai, Ab, Ae⟩ := M.q5 2 rfl
 obtain ⟨tP, Af, Ac, Aj, Ag, Aa⟩ := M.q5 3 rfl
 go_call (l6May_v a b c d e ts ks fs A0 A1 A2 c0 c1 c2 tn false wk true HY.out.1 _ ht hk hf (H.out.below M.below)) as r W2 ⟨rfl, g1⟩
 clear tX Ah Ad Ai Ab Ae tP Af Ac Aj Ag Aa
 replace M := M.call g1
 clear g1
 obtain ⟨tX, Ah, Ad, Ai, Ab, Ae⟩ := M.q5 2 rfl
 obtain ⟨tP, Af, Ac, Aj, Ag, Aa⟩ := M.q5 3 rfl
 go_wp2_with fail
 go_call (sLevelIn_v a b c d e lv true HY.out.2.1 _) as r W3 ⟨rfl, g1⟩
 clear tX Ah Ad Ai Ab Ae tP Af Ac Aj Ag Aa
 replace M := M.call g1
 clear g1
 obtain ⟨tX, Ah, Ad, Ai, Ab, Ae⟩ := M.q5 2 rfl
 obtain ⟨tP, Af, Ac, Aj, Ag, Aa⟩ := M.q5 3 rfl
 go_wp2_with fail
 go_call (l3Copy_s ts ks fs A0 A1 A2 c0 c1 c2 tn false _ ht hk hf (H.out.below M.below)) as r W4 ⟨C0, C1, C2, e0, e1, e2, rfl, g1⟩
 clear tX Ah Ad Ai Ab Ae tP Af Ac Aj Ag Aa
 replace M := Sep.new M g1
 simp only [zC, zN] at M
 clear g1
 obtain ⟨tX, Ah, Ad, Ai, Ab, Ae⟩ := M.q5 5 rfl
 obtain ⟨tP, Af, Ac, Aj, Ag, Aa⟩ := M.q5 6 rfl
 go_wp2_with fail
 clear tX Ah Ad Ai Ab Ae tP Af Ac Aj Ag Aa
 replace M : Sep [] w (W4.alloc (.cells #[.slice C0 ts.length e0, .slice C1 ks.length e1, .slice C2 fs.length e2, .int .i64 tn, .bool false] 35)) [.blk (W4.heap.size) 35 #[.slice C0 ts.length e0, .slice C1 ks.length e1, .slice C2 fs.length e2, .int .i64 tn, .bool false], rT ts.length C0 e0 ts, rK ks.length C1 e1 ks, rF fs.length C2 e2 fs, .blk (w.heap.size + 3) 38 #[.int .i64 0, .int .i64 0], .blk (w.heap.size + 2) 35 #[.slice none 0 0, .slice none 0 0, .slice none 0 0, .int .i64 0, .bool false], .blk (w.heap.size + 1) 35 #[.slice A0 ts.length c0, .slice A1 ks.length c1, .slice A2 fs.length c2, .int .i64 tn, .bool false], .blk (w.heap.size) 28 #[.int .i64 a, .int .i64 b, .int .i64 c, .int .i64 d, .int .i64 e]] := M.alloc 35 #[.slice C0 ts.length e0, .slice C1 ks.length e1, .slice C2 fs.length e2, .int .i64 tn, .bool false] _ rfl
 generalize W4.alloc (.cells #[.slice C0 ts.length e0, .slice C1 ks.length e1, .slice C2 fs.length e2, .int .i64 tn, .bool false] 35) = W5 at M ⊢
 replace M : Sep [] w W5 [rT ts.length C0 e0 ts, rK ks.length C1 e1 ks, rF fs.length C2 e2 fs, .blk (W4.heap.size) 35 #[.slice C0 ts.length e0, .slice C1 ks.length e1, .slice C2 fs.length e2, .int .i64 tn, .bool false], .blk (w.heap.size + 3) 38 #[.int .i64 0, .int .i64 0], .blk (w.heap.size + 2) 35 #[.slice none 0 0, .slice none 0 0, .slice none 0 0, .int .i64 0, .bool false], .blk (w.heap.size + 1) 35 #[.slice A0 ts.length c0, .slice A1 ks.length c1, .slice A2 fs.length c2, .int .i64 tn, .bool false], .blk (w.heap.size) 28 #[.int .i64 a, .int .i64 b, .int .i64 c, .int .i64 d, .int .i64 e]] := Sep.back (l1 := [rT ts.length C0 e0 ts, rK ks.length C1 e1 ks, rF fs.length C2 e2 fs]) M
 obtain ⟨tY, Al, Ap, At, Aq, As, Ar, Ao, Ak, An, Am⟩ := M.f5 3 rfl
 obtain ⟨tX, Ah, Ad, Ai, Ab, Ae⟩ := M.q5 6 rfl
 obtain ⟨tP, Af, Ac, Aj, Ag, Aa⟩ := M.q5 7 rfl
 have MD : Sep [] w W5.drew [rT ts.length C0 e0 ts, rK ks.length C1 e1 ks, rF fs.length C2 e2 fs, .blk (W4.heap.size) 35 #[.slice C0 ts.length e0, .slice C1 ks.length e1, .slice C2 fs.length e2, .int .i64 tn, .bool false], .blk (w.heap.size + 3) 38 #[.int .i64 0, .int .i64 0], .blk (w.heap.size + 2) 35 #[.slice none 0 0, .slice none 0 0, .slice none 0 0, .int .i64 0, .bool false], .blk (w.heap.size + 1) 35 #[.slice A0 ts.length c0, .slice A1 ks.length c1, .slice A2 fs.length c2, .int .i64 tn, .bool false], .blk (w.heap.size) 28 #[.int .i64 a, .int .i64 b, .int .i64 c, .int .i64 d, .int .i64 e]] := M.drew
 have hs1 : W5.drew.cell? ⟨w.heap.size + 1, 0, none⟩ = some (.slice A0 ts.length c0) ∧ W5.drew.cell? ⟨w.heap.size + 1, 1, none⟩ = some (.slice A1 ks.length c1) ∧ W5.drew.cell? ⟨w.heap.size + 1, 2, none⟩ = some (.slice A2 fs.length c2) ∧ W5.drew.cell? ⟨w.heap.size + 1, 3, none⟩ = some (.int .i64 tn) ∧ W5.drew.cell? ⟨w.heap.size + 1, 4, none⟩ = some (.bool false) ∧ W5.drew.cell? ⟨W4.heap.size, 0, none⟩ = some (.slice C0 ts.length e0) ∧ W5.drew.cell? ⟨W4.heap.size, 1, none⟩ = some (.slice C1 ks.length e1) ∧ W5.drew.cell? ⟨W4.heap.size, 2, none⟩ = some (.slice C2 fs.length e2) ∧ W5.drew.cell? ⟨W4.heap.size, 3, none⟩ = some (.int .i64 tn) ∧ W5.drew.cell? ⟨W4.heap.size, 4, none⟩ = some (.bool false) := ⟨MD.cell 6 0 rfl, MD.cell 6 1 rfl, MD.cell 6 2 rfl, MD.cell 6 3 rfl, MD.cell 6 4 rfl, MD.cell 3 0 rfl, MD.cell 3 1 rfl, MD.cell 3 2 rfl, MD.cell 3 3 rfl, MD.cell 3 4 rfl⟩
 go_region_law (first | (refine step_append_row rfl (.tmp 51) (.tmp 56) 31 rfl w.heap.size 45 i2 (.agg #[.int .i64 0, .int .i64 0, .int .i64 0, .int .i64 0, .int .i64 0, .int .i64 0, .int .i64 0]) 7 56 Tryz.underlying31 ji jz0 jz1 jz2 rfl (by decide) _ _ _ rfl (M6a.ownsAt 0 rfl) _ 1 1 (T7.cs ⟨1, lv, -1, 0, 0, 0, tn⟩) rfl rfl (rowLit7 _ _ _ _ _ _ _ _ _) (by simp [T7.cs, Value.oneCell']) (by unfold maxLen; omega) (by omega) M6a.size ?_; intro v8 W7 r1 r2 r3; obtain ⟨g8, c8, rfl, _, _⟩ := Own.shape r1 (fun e => absurd (r3.1 e).2 (by decide)); clear r3; rw [tcells_snoc] at r1; have M7 : Sep [] w W7 [rT (ts.length + 1) (some ⟨g8, 0, none⟩) c8 (ts ++ [⟨1, lv, -1, 0, 0, 0, tn⟩]), rK ks.length C1 e1 ks, rF fs.length C2 e2 fs, .blk (W4.heap.size) 35 #[.slice C0 ts.length e0, .slice C1 ks.length e1, .slice C2 fs.length e2, .int .i64 tn, .bool false], .blk (w.heap.size + 3) 38 #[.int .i64 0, .int .i64 0], .blk (w.heap.size + 2) 35 #[.slice none 0 0, .slice none 0 0, .slice none 0 0, .int .i64 0, .bool false], .blk (w.heap.size + 1) 35 #[.slice A0 ts.length c0, .slice A1 ks.length c1, .slice A2 fs.length c2, .int .i64 tn, .bool false], .blk (w.heap.size) 28 #[.int .i64 a, .int .i64 b, .int .i64 c, .int .i64 d, .int .i64 e]] := Sep.grow M6a r2 r1 rfl; clear r1 r2; have hs4 : W7.cell? ⟨w.heap.size + 1, 0, none⟩ = some (.slice A0 ts.length c0) ∧ W7.cell? ⟨w.heap.size + 1, 1, none⟩ = some (.slice A1 ks.length c1) ∧ W7.cell? ⟨w.heap.size + 1, 2, none⟩ = some (.slice A2 fs.length c2) ∧ W7.cell? ⟨w.heap.size + 1, 3, none⟩ = some (.int .i64 tn) ∧ W7.cell? ⟨w.heap.size + 1, 4, none⟩ = some (.bool false) ∧ W7.cell? ⟨W4.heap.size, 0, none⟩ = some (.slice C0 ts.length e0) ∧ W7.cell? ⟨W4.heap.size, 1, none⟩ = some (.slice C1 ks.length e1) ∧ W7.cell? ⟨W4.heap.size, 2, none⟩ = some (.slice C2 fs.length e2) ∧ W7.cell? ⟨W4.heap.size, 3, none⟩ = some (.int .i64 tn) ∧ W7.cell? ⟨W4.heap.size, 4, none⟩ = some (.bool false) := ⟨M7.cell 6 0 rfl, M7.cell 6 1 rfl, M7.cell 6 2 rfl, M7.cell 6 3 rfl, M7.cell 6 4 rfl, M7.cell 3 0 rfl, M7.cell 3 1 rfl, M7.cell 3 2 rfl, M7.cell 3 3 rfl, M7.cell 3 4 rfl⟩; obtain ⟨tY, Al, Ap, At, Aq, As, Ar, Ao, Ak, An, Am⟩ := M7.f5 3 rfl; obtain ⟨tX, Ah, Be, Ad, Bf, Ai, Bq, Ab, Br, Ae, Bb⟩ := M7.f5 6 rfl; obtain ⟨tP, Af, Bg, Ac, Bn, Aj, Bi, Ag, Bj, Aa, Bk⟩ := M7.f5 7 rfl; have nYP := (M7.ne 3 7 (by omega) rfl rfl rfl rfl); have nYX := (M7.ne 3 6 (by omega) rfl rfl rfl rfl)) | (go_simp; go_at_call 55; refine (sNewTask_any lv tn _).mono ?_; rintro r W6 ⟨rfl, g1⟩; have M6 : Sep [] w W6 [rT ts.length C0 e0 ts, rK ks.length C1 e1 ks, rF fs.length C2 e2 fs, .blk (W4.heap.size) 35 #[.slice C0 ts.length e0, .slice C1 ks.length e1, .slice C2 fs.length e2, .int .i64 tn, .bool false], .blk (w.heap.size + 3) 38 #[.int .i64 0, .int .i64 0], .blk (w.heap.size + 2) 35 #[.slice none 0 0, .slice none 0 0, .slice none 0 0, .int .i64 0, .bool false], .blk (w.heap.size + 1) 35 #[.slice A0 ts.length c0, .slice A1 ks.length c1, .slice A2 fs.length c2, .int .i64 tn, .bool false], .blk (w.heap.size) 28 #[.int .i64 a, .int .i64 b, .int .i64 c, .int .i64 d, .int .i64 e]] := MD.call g1; clear g1; have hs2 : W6.cell? ⟨w.heap.size + 1, 0, none⟩ = some (.slice A0 ts.length c0) ∧ W6.cell? ⟨w.heap.size + 1, 1, none⟩ = some (.slice A1 ks.length c1) ∧ W6.cell? ⟨w.heap.size + 1, 2, none⟩ = some (.slice A2 fs.length c2) ∧ W6.cell? ⟨w.heap.size + 1, 3, none⟩ = some (.int .i64 tn) ∧ W6.cell? ⟨w.heap.size + 1, 4, none⟩ = some (.bool false) ∧ W6.cell? ⟨W4.heap.size, 0, none⟩ = some (.slice C0 ts.length e0) ∧ W6.cell? ⟨W4.heap.size, 1, none⟩ = some (.slice C1 ks.length e1) ∧ W6.cell? ⟨W4.heap.size, 2, none⟩ = some (.slice C2 fs.length e2) ∧ W6.cell? ⟨W4.heap.size, 3, none⟩ = some (.int .i64 tn) ∧ W6.cell? ⟨W4.heap.size, 4, none⟩ = some (.bool false) := ⟨M6.cell 6 0 rfl, M6.cell 6 1 rfl, M6.cell 6 2 rfl, M6.cell 6 3 rfl, M6.cell 6 4 rfl, M6.cell 3 0 rfl, M6.cell 3 1 rfl, M6.cell 3 2 rfl, M6.cell 3 3 rfl, M6.cell 3 4 rfl⟩; have M6a : Sep [] w (W6.alloc (.cells #[.int .i64 1, .int .i64 lv, .int .i64 (-1), .int .i64 0, .int .i64 0, .int .i64 0, .int .i64 tn] 45)) [rT ts.length C0 e0 ts, rK ks.length C1 e1 ks, rF fs.length C2 e2 fs, .blk (W4.heap.size) 35 #[.slice C0 ts.length e0, .slice C1 ks.length e1, .slice C2 fs.length e2, .int .i64 tn, .bool false], .blk (w.heap.size + 3) 38 #[.int .i64 0, .int .i64 0], .blk (w.heap.size + 2) 35 #[.slice none 0 0, .slice none 0 0, .slice none 0 0, .int .i64 0, .bool false], .blk (w.heap.size + 1) 35 #[.slice A0 ts.length c0, .slice A1 ks.length c1, .slice A2 fs.length c2, .int .i64 tn, .bool false], .blk (w.heap.size) 28 #[.int .i64 a, .int .i64 b, .int .i64 c, .int .i64 d, .int .i64 e]] := (M6.allocN 45 #[.int .i64 1, .int .i64 lv, .int .i64 (-1), .int .i64 0, .int .i64 0, .int .i64 0, .int .i64 tn]).tail; have hs3 : ((W6.alloc (.cells #[.int .i64 1, .int .i64 lv, .int .i64 (-1), .int .i64 0, .int .i64 0, .int .i64 0, .int .i64 tn] 45))).cell? ⟨w.heap.size + 1, 0, none⟩ = some (.slice A0 ts.length c0) ∧ ((W6.alloc (.cells #[.int .i64 1, .int .i64 lv, .int .i64 (-1), .int .i64 0, .int .i64 0, .int .i64 0, .int .i64 tn] 45))).cell? ⟨w.heap.size + 1, 1, none⟩ = some (.slice A1 ks.length c1) ∧ ((W6.alloc (.cells #[.int .i64 1, .int .i64 lv, .int .i64 (-1), .int .i64 0, .int .i64 0, .int .i64 0, .int .i64 tn] 45))).cell? ⟨w.heap.size + 1, 2, none⟩ = some (.slice A2 fs.length c2) ∧ ((W6.alloc (.cells #[.int .i64 1, .int .i64 lv, .int .i64 (-1), .int .i64 0, .int .i64 0, .int .i64 0, .int .i64 tn] 45))).cell? ⟨w.heap.size + 1, 3, none⟩ = some (.int .i64 tn) ∧ ((W6.alloc (.cells #[.int .i64 1, .int .i64 lv, .int .i64 (-1), .int .i64 0, .int .i64 0, .int .i64 0, .int .i64 tn] 45))).cell? ⟨w.heap.size + 1, 4, none⟩ = some (.bool false) ∧ ((W6.alloc (.cells #[.int .i64 1, .int .i64 lv, .int .i64 (-1), .int .i64 0, .int .i64 0, .int .i64 0, .int .i64 tn] 45))).cell? ⟨W4.heap.size, 0, none⟩ = some (.slice C0 ts.length e0) ∧ ((W6.alloc (.cells #[.int .i64 1, .int .i64 lv, .int .i64 (-1), .int .i64 0, .int .i64 0, .int .i64 0, .int .i64 tn] 45))).cell? ⟨W4.heap.size, 1, none⟩ = some (.slice C1 ks.length e1) ∧ ((W6.alloc (.cells #[.int .i64 1, .int .i64 lv, .int .i64 (-1), .int .i64 0, .int .i64 0, .int .i64 0, .int .i64 tn] 45))).cell? ⟨W4.heap.size, 2, none⟩ = some (.slice C2 fs.length e2) ∧ ((W6.alloc (.cells #[.int .i64 1, .int .i64 lv, .int .i64 (-1), .int .i64 0, .int .i64 0, .int .i64 0, .int .i64 tn] 45))).cell? ⟨W4.heap.size, 3, none⟩ = some (.int .i64 tn) ∧ ((W6.alloc (.cells #[.int .i64 1, .int .i64 lv, .int .i64 (-1), .int .i64 0, .int .i64 0, .int .i64 0, .int .i64 tn] 45))).cell? ⟨W4.heap.size, 4, none⟩ = some (.bool false) := ⟨M6a.cell 6 0 rfl, M6a.cell 6 1 rfl, M6a.cell 6 2 rfl, M6a.cell 6 3 rfl, M6a.cell 6 4 rfl, M6a.cell 3 0 rfl, M6a.cell 3 1 rfl, M6a.cell 3 2 rfl, M6a.cell 3 3 rfl, M6a.cell 3 4 rfl⟩))
 all_goals go_wp2_with fail
 all_goals
  have M : Sep [] w ((W7.setCell ⟨W4.heap.size, 0, none⟩ (.slice (some ⟨g8, 0, none⟩) (ts.length + 1) c8)).setCell ⟨W4.heap.size, 3, none⟩ (.int .i64 (tn + 1))) [rT (ts.length + 1) (some ⟨g8, 0, none⟩) c8 (ts ++ [⟨1, lv, -1, 0, 0, 0, tn⟩]), rK ks.length C1 e1 ks, rF fs.length C2 e2 fs, .blk (W4.heap.size) 35 #[.slice (some ⟨g8, 0, none⟩) (ts.length + 1) c8, .slice C1 ks.length e1, .slice C2 fs.length e2, .int .i64 (tn + 1), .bool false], .blk (w.heap.size + 3) 38 #[.int .i64 0, .int .i64 0], .blk (w.heap.size + 2) 35 #[.slice none 0 0, .slice none 0 0, .slice none 0 0, .int .i64 0, .bool false], .blk (w.heap.size + 1) 35 #[.slice A0 ts.length c0, .slice A1 ks.length c1, .slice A2 fs.length c2, .int .i64 tn, .bool false], .blk (w.heap.size) 28 #[.int .i64 a, .int .i64 b, .int .i64 c, .int .i64 d, .int .i64 e]] := (M7.set 3 rfl 0 _).set 3 rfl 3 _
  generalize (W7.setCell ⟨W4.heap.size, 0, none⟩ (.slice (some ⟨g8, 0, none⟩) (ts.length + 1) c8)).setCell ⟨W4.heap.size, 3, none⟩ (.int .i64 (tn + 1)) = W8 at M ⊢
  clear hs1 hs2 hs3 hs4 MD M6 M6a M7 ji jz0 jz1 jz2 nYP nYX tY Al Ap At Aq As Ar Ao Ak An Am tX Ah Be Ad Bf Ai Bq Ab Br Ae Bb tP Af Bg Ac Bn Aj Bi Ag Bj Aa Bk
  obtain ⟨tY, Al, Ap, At, Aq, As, Ar, Ao, Ak, An, Am⟩ := M.f5 3 rfl
  obtain ⟨tX, Ah, Ad, Ai, Ab, Ae⟩ := M.q5 6 rfl
  obtain ⟨tP, Af, Ac, Aj, Ag, Aa⟩ := M.q5 7 rfl
  go_wp2_with fail
  have h9 := hDn.out _ _ _ _ _ _ [.blk (W4.heap.size) 35 #[.slice (some ⟨g8, 0, none⟩) (ts.length + 1) c8, .slice C1 ks.length e1, .slice C2 fs.length e2, .int .i64 (tn + 1), .bool false], .blk (w.heap.size + 3) 38 #[.int .i64 0, .int .i64 0], .blk (w.heap.size + 2) 35 #[.slice none 0 0, .slice none 0 0, .slice none 0 0, .int .i64 0, .bool false], .blk (w.heap.size + 1) 35 #[.slice A0 ts.length c0, .slice A1 ks.length c1, .slice A2 fs.length c2, .int .i64 tn, .bool false], .blk (w.heap.size) 28 #[.int .i64 a, .int .i64 b, .int .i64 c, .int .i64 d, .int .i64 e]] _ (H.out.below M.below) M
  go_call (h9) as r W9 ⟨B0, B1, B2, d0, d1, d2, rfl, g1⟩
  clear tY Al Ap At Aq As Ar Ao Ak An Am tX Ah Ad Ai Ab Ae tP Af Ac Aj Ag Aa
  replace M := Sep.comp (ps := [rT (ts.length + 1) (some ⟨g8, 0, none⟩) c8 (ts ++ [⟨1, lv, -1, 0, 0, 0, tn⟩]), rK ks.length C1 e1 ks, rF fs.length C2 e2 fs]) M g1
  simp only [zC, zN] at M
  clear g1
  clear h9
  obtain ⟨tS, Aw, Bh, Ay, Bc⟩ := M.f2 4 rfl
  obtain ⟨tR, Ba, Bd, Az, Bo, Ax, Bp, Au, Bm, Av, Bl⟩ := M.f5 5 rfl
  go_wp2_with fail
  clear tS Aw Bh Ay Bc tR Ba Bd Az Bo Ax Bp Au Bm Av Bl
  replace M := M.gset5 5 rfl (.slice B0 o.ts.length d0) (.slice B1 o.ks.length d1) (.slice B2 o.fs.length d2) (.int .i64 o.tn) (.bool o.st)
  obtain ⟨W10, eW, M⟩ := M
  rw [eW]
  clear eW
  simp only [zZ, zS] at M
  replace M := M.gset2 4 rfl (.int .i64 o.rp) (.int .i64 o.ou)
  obtain ⟨W11, eW, M⟩ := M
  rw [eW]
  clear eW
  simp only [zZ, zS] at M
  obtain ⟨tS, Aw, Ay⟩ := M.q2 4 rfl
  obtain ⟨tR, Ba, Az, Ax, Au, Av⟩ := M.q5 5 rfl
  exact bodyPost_ret (by simp [results, Tryz.results16, go_sem, Ba, Az, Ax, Au, Av, Aw, Ay]) rfl ⟨B0, B1, B2, d0, d1, d2, rfl, M.take 3⟩
end Go.Proofs.YtfkdfkoigojciaaGreatDoor
