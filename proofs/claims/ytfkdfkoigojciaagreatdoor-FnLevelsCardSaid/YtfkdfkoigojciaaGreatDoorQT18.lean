/- The model's Taken, Yielded, Ended, Spawned: what they answer, as one thing. Lists no longer than a million. -/
import Derived.Shelf.Abstract
import Derived.Test.YtfkdfkoigojciaaGreatDoorQT15
import Derived.Test.YtfkdfkoigojciaaGreatDoorQT16
import Derived.Test.YtfkdfkoigojciaaGreatDoorQT17
import Derived.Test.YtfkdfkoigojciaaGreatDoorRows
import Derived.ChangeSame
import Derived.ChangeVars
import Derived.JoinedOf
import Derived.RowKit
import Derived.RowKitTokens
import Derived.LaidLaws
import Derived.LaidHandle
import Derived.Stop.Joined
import Derived.Test.YtfkdfkoigojciaaGreatDoorQT12
import Derived.Test.YtfkdfkoigojciaaGreatDoorQT09

namespace Go.Proofs.YtfkdfkoigojciaaGreatDoor
open Go.RowKit
set_option linter.unusedVariables false
/-- The library's variable errors.errorType, as it is laid. -/
def Laid (w : World) : Prop := w.cell? ⟨0, 0, none⟩ = some (.iface 206 (.agg #[.pointer (some ⟨1, 84, none⟩)]))
theorem Laid.lt {w : World} (h : Laid w) : 0 < w.heap.size := World.block_lt_of_cell? w _ h
theorem Laid.below {w W : World} (h : Laid w) (hb : Below w.heap.size w W) : Laid W := (hb.cell (p := ⟨0, 0, none⟩) h.lt).trans h
theorem livedAs_bad (a b c d e : Int) (ts : List T7) (ks : List Int) (fs : List F2) (A0 A1 A2 : Option Addr) (c0 c1 c2 : Nat) (tn : Int) (st : Bool) (wk : Int) (G2 : FuncId) (cap2 : Array Value) (w : World) (ht : ts.length ≤ 1048576) (hk : ks.length ≤ 1048576) (hf : fs.length ≤ 1048576) (h : InPool w ts ks fs A0 A1 A2) (hp : poolB a b c d e ts ks fs tn = false) :
 Calls Tryz.prog 59 #[.agg #[.int .i64 a, .int .i64 b, .int .i64 c, .int .i64 d, .int .i64 e], .agg #[.slice A0 ts.length c0, .slice A1 ks.length c1, .slice A2 fs.length c2, .int .i64 tn, .bool st], .int .i64 wk, .func (.func G2) #[] cap2] w (GaveS [] w ⟨[], [], [], 0, false, 8, 0⟩) :=
 livedAs_face a b c d e ts ks fs A0 A1 A2 c0 c1 c2 tn st wk G2 cap2 w ht hk hf h _ (fun V bL hV hc hl => lived_bad a b c d e ts ks fs A0 A1 A2 c0 c1 c2 tn st wk 123 #[.pointer (some ⟨bL, 0, none⟩)] (Go.Proofs.enters_of Tryz.func123 (by kernel_rfl) rfl) V ht hk hf (h.below hV) hp)
theorem livedAs_worker (a b c d e : Int) (ts : List T7) (ks : List Int) (fs : List F2) (A0 A1 A2 : Option Addr) (c0 c1 c2 : Nat) (tn : Int) (st : Bool) (wk : Int) (G2 : FuncId) (cap2 : Array Value) (w : World) (ht : ts.length ≤ 1048576) (hk : ks.length ≤ 1048576) (hf : fs.length ≤ 1048576) (h : InPool w ts ks fs A0 A1 A2) (hp : poolB a b c d e ts ks fs tn = true) (hw : btw wk 0 (a - 1) = false) :
 Calls Tryz.prog 59 #[.agg #[.int .i64 a, .int .i64 b, .int .i64 c, .int .i64 d, .int .i64 e], .agg #[.slice A0 ts.length c0, .slice A1 ks.length c1, .slice A2 fs.length c2, .int .i64 tn, .bool st], .int .i64 wk, .func (.func G2) #[] cap2] w (GaveS [] w ⟨ts, ks, fs, tn, st, 8, 0⟩) :=
 livedAs_face a b c d e ts ks fs A0 A1 A2 c0 c1 c2 tn st wk G2 cap2 w ht hk hf h _ (fun V bL hV hc hl => lived_worker a b c d e ts ks fs A0 A1 A2 c0 c1 c2 tn st wk 123 #[.pointer (some ⟨bL, 0, none⟩)] (Go.Proofs.enters_of Tryz.func123 (by kernel_rfl) rfl) V ht hk hf (h.below hV) hp hw)
/-- A pool of one's own, as it is left. -/
def HeldO (S : List Nat) (g : Nat) (o : OutP) (V W : World) : Prop := ∃ (D0 D1 D2 : Option Addr) (f0 f1 f2 : Nat), Sep S V W [.blk g 35 #[.slice D0 o.ts.length f0, .slice D1 o.ks.length f1, .slice D2 o.fs.length f2, .int .i64 o.tn, .bool o.st], rT o.ts.length D0 f0 o.ts, rK o.ks.length D1 f1 o.ks, rF o.fs.length D2 f2 o.fs]
theorem livedAs_no (a b c d e : Int) (ts : List T7) (ks : List Int) (fs : List F2) (A0 A1 A2 : Option Addr) (c0 c1 c2 : Nat) (tn : Int) (st : Bool) (wk : Int) (G2 : FuncId) (cap2 : Array Value) (hG2 : ∀ args w, (callFunc G2 args).run Tryz.prog w = .ok (.enter G2 args) w) (w : World) (ht : ts.length ≤ 1048576) (hk : ks.length ≤ 1048576) (hf : fs.length ≤ 1048576) (h : InPool w ts ks fs A0 A1 A2) (hg : Laid w) (hp : poolB a b c d e ts ks fs tn = true) (hw : btw wk 0 (a - 1) = true) (rp : Int) (h1 : rp ≠ 1) (h7 : rp ≠ 7)
 (hb : ∀ (V : World) (g : Nat) (C0 C1 C2 : Option Addr) (e0 e1 e2 : Nat), Below w.heap.size w V → Sep (fps [.blk g 35 #[.slice C0 ts.length e0, .slice C1 ks.length e1, .slice C2 fs.length e2, .int .i64 tn, .bool st], rT ts.length C0 e0 ts, rK ks.length C1 e1 ks, rF fs.length C2 e2 fs]) V V [.blk g 35 #[.slice C0 ts.length e0, .slice C1 ks.length e1, .slice C2 fs.length e2, .int .i64 tn, .bool st], rT ts.length C0 e0 ts, rK ks.length C1 e1 ks, rF fs.length C2 e2 fs] → Calls Tryz.prog G2 (#[.pointer (some ⟨g, 0, none⟩)] ++ cap2) V (fun r w' => r = .returned (.iface 133 (.int .i64 rp)) ∧ Sep (fps [.blk g 35 #[.slice C0 ts.length e0, .slice C1 ks.length e1, .slice C2 fs.length e2, .int .i64 tn, .bool st], rT ts.length C0 e0 ts, rK ks.length C1 e1 ks, rF fs.length C2 e2 fs]) V w' [])) :
 Calls Tryz.prog 59 #[.agg #[.int .i64 a, .int .i64 b, .int .i64 c, .int .i64 d, .int .i64 e], .agg #[.slice A0 ts.length c0, .slice A1 ks.length c1, .slice A2 fs.length c2, .int .i64 tn, .bool st], .int .i64 wk, .func (.func G2) #[] cap2] w (GaveS [] w ⟨ts, ks, fs, tn, st, rp, 0⟩) :=
 livedAs_face a b c d e ts ks fs A0 A1 A2 c0 c1 c2 tn st wk G2 cap2 w ht hk hf h ⟨ts, ks, fs, tn, st, rp, 0⟩ (fun V bL hV hc hl => lived_noB a b c d e ts ks fs A0 A1 A2 c0 c1 c2 tn st wk 123 #[.pointer (some ⟨bL, 0, none⟩)] (Go.Proofs.enters_of Tryz.func123 (by kernel_rfl) rfl) V ht hk hf (h.below hV) hp hw rp (fun V2 g C0 C1 C2 e0 e1 e2 hV2 hM hq => livedAsC_no ts ks fs C0 C1 C2 e0 e1 e2 tn st g V2 ht hk hf hM G2 cap2 hG2 (.iface 133 (.int .i64 rp)) rp 0 (fun V' h' => answer_y rp V' h') (fun V' => keeps_y_no rp h1 h7 V') bL ((hV2.cell (p := ⟨bL, 0, none⟩) hl).trans hc) (Nat.lt_of_lt_of_le hl hV2.size) ((hg.below hV).below hV2) (fun q hq' => Nat.le_trans (Laid.lt hg) (Nat.le_trans hV.size (hq q hq'))) (fun V3 hV3 hM3 => hb V3 g C0 C1 C2 e0 e1 e2 (hV.trans ((hV2.trans (hV3.mono hV2.size)).mono hV.size)) hM3)))
theorem livedAs_yes (a b c d e : Int) (ts : List T7) (ks : List Int) (fs : List F2) (A0 A1 A2 : Option Addr) (c0 c1 c2 : Nat) (tn : Int) (st : Bool) (wk : Int) (G2 : FuncId) (cap2 : Array Value) (hG2 : ∀ args w, (callFunc G2 args).run Tryz.prog w = .ok (.enter G2 args) w) (w : World) (ht : ts.length ≤ 1048576) (hk : ks.length ≤ 1048576) (hf : fs.length ≤ 1048576) (h : InPool w ts ks fs A0 A1 A2) (hg : Laid w) (hp : poolB a b c d e ts ks fs tn = true) (hw : btw wk 0 (a - 1) = true) (o : OutP) (hr : o.rp = 1 ∨ o.rp = 7)
 (hb : ∀ (V : World) (g : Nat) (C0 C1 C2 : Option Addr) (e0 e1 e2 : Nat), Below w.heap.size w V → Sep (fps [.blk g 35 #[.slice C0 ts.length e0, .slice C1 ks.length e1, .slice C2 fs.length e2, .int .i64 tn, .bool st], rT ts.length C0 e0 ts, rK ks.length C1 e1 ks, rF fs.length C2 e2 fs]) V V [.blk g 35 #[.slice C0 ts.length e0, .slice C1 ks.length e1, .slice C2 fs.length e2, .int .i64 tn, .bool st], rT ts.length C0 e0 ts, rK ks.length C1 e1 ks, rF fs.length C2 e2 fs] → Calls Tryz.prog G2 (#[.pointer (some ⟨g, 0, none⟩)] ++ cap2) V (fun r w' => r = .returned (.iface 165 (.agg #[.iface 133 (.int .i64 o.rp), .int .i64 o.ou])) ∧ HeldO (fps [.blk g 35 #[.slice C0 ts.length e0, .slice C1 ks.length e1, .slice C2 fs.length e2, .int .i64 tn, .bool st], rT ts.length C0 e0 ts, rK ks.length C1 e1 ks, rF fs.length C2 e2 fs]) g o V w')) :
 Calls Tryz.prog 59 #[.agg #[.int .i64 a, .int .i64 b, .int .i64 c, .int .i64 d, .int .i64 e], .agg #[.slice A0 ts.length c0, .slice A1 ks.length c1, .slice A2 fs.length c2, .int .i64 tn, .bool st], .int .i64 wk, .func (.func G2) #[] cap2] w (GaveS [] w o) :=
 livedAs_face a b c d e ts ks fs A0 A1 A2 c0 c1 c2 tn st wk G2 cap2 w ht hk hf h o (fun V bL hV hc hl => lived_yesB a b c d e ts ks fs A0 A1 A2 c0 c1 c2 tn st wk 123 #[.pointer (some ⟨bL, 0, none⟩)] (Go.Proofs.enters_of Tryz.func123 (by kernel_rfl) rfl) V ht hk hf (h.below hV) hp hw o (fun V2 g C0 C1 C2 e0 e1 e2 hV2 hM hq => livedAsC_yes ts ks fs C0 C1 C2 e0 e1 e2 tn st g V2 ht hk hf hM G2 cap2 hG2 (.iface 165 (.agg #[.iface 133 (.int .i64 o.rp), .int .i64 o.ou])) o (fun V' h' => answer_d o.rp o.ou V' h') (fun V' => hr.elim (fun hr => keeps_d_yes1 o.rp o.ou hr V') (fun hr => keeps_d_yes7 o.rp o.ou hr V')) bL ((hV2.cell (p := ⟨bL, 0, none⟩) hl).trans hc) (Nat.lt_of_lt_of_le hl hV2.size) ((hg.below hV).below hV2) (fun q hq' => Nat.le_trans (Laid.lt hg) (Nat.le_trans hV.size (hq q hq'))) (fun V3 hV3 hM3 => (hb V3 g C0 C1 C2 e0 e1 e2 (hV.trans ((hV2.trans (hV3.mono hV2.size)).mono hV.size)) hM3).mono (fun r w' ⟨hr, D0, D1, D2, f0, f1, f2, hs⟩ => ⟨D0, D1, D2, f0, f1, f2, hr, hs⟩))))
open Go.ChangeShapes Go.WideShapes Go.RowKit
theorem errG : Tryz.prog.globalNamed "errors.errorType" = some 0 := by kernel_rfl
theorem errR : (Tryz.prog.cutTypes.find? (·.1 == "internal/reflectlite.rtype")).map (·.2) = some 206 := by kernel_rfl
theorem errOne : ((List.range Tryz.prog.types.size).filter fun t => Tryz.prog.rowNamed t [101, 114, 114, 111, 114]) = [84] := by kernel_rfl
theorem errH : typeHandle Tryz.prog 84 = .pointer (some ⟨1, 84, none⟩) := by kernel_rfl
/-- WHAT THE CONDITION GIVES A WALK: the variable's one cell. -/
theorem laid_of {W : World} (h : laidMetH Tryz.prog [("errors.errorType", Rows.laid_errors_errorType)] W) : Laid W := by
 have h' : laidMet Tryz.prog [] W ∧ handlesMet Tryz.prog [("errors.errorType", Rows.laid_errors_errorType)] W := h
 obtain ⟨name, u, ty, e1, e2, e3, e4, e5⟩ := h'.2 _ (List.mem_singleton.2 rfl)
 have en : name = [101, 114, 114, 111, 114] := (Option.some.inj e1).symm
 subst en
 obtain rfl := Option.some.inj (errR.symm.trans e2)
 have hm : ty ∈ (List.range Tryz.prog.types.size).filter fun t => Tryz.prog.rowNamed t [101, 114, 114, 111, 114] := List.mem_filter.2 ⟨List.mem_range.2 e3, e4⟩
 rw [errOne] at hm
 obtain rfl := List.mem_singleton.1 hm
 rw [errH] at e5
 have h9 := World.var?_cell errG e5 0
 simpa [Laid] using h9
/-- A world that meets the condition: the settled one, the variable's cell laid. -/
noncomputable def laidWorld (os : Os) : World :=
 let w0 := World.holding Tryz.prog os ⟨#[], #[], []⟩
 { w0 with heap := w0.heap.modify 0 fun
  | .cells _ t frozen => .cells #[.iface 206 (.agg #[.pointer (some ⟨1, 84, none⟩)])] t frozen
  | o => o }
theorem laidWorld_met (os : Os) (args : Array Value) : laidMetH Tryz.prog [("errors.errorType", Rows.laid_errors_errorType)] ((laidWorld os).forCall (fun _ _ => 0) ⟨#[], args, []⟩).memory :=
 laidMetH_of_parts (laidMet_nil _ _) (by kernel_rfl)
set_option maxHeartbeats 4000000
set_option maxRecDepth 100000
theorem taken_may (a b c d e : Int) (ts : List T7) (ks : List Int) (fs : List F2) (A0 A1 A2 : Option Addr) (c0 c1 c2 : Nat) (tn : Int) (st : Bool) (wk : Int) (w : World) (ht : ts.length ≤ 1048576) (hk : ks.length ≤ 1048576) (hf : fs.length ≤ 1048576) (h : InPool w ts ks fs A0 A1 A2) (fr : Int) (hfr : firstM ts = fr) (hm : mayB a b c d e ts ks fs tn wk = false) :
 Calls Tryz.prog 17 #[.agg #[.int .i64 a, .int .i64 b, .int .i64 c, .int .i64 d, .int .i64 e], .agg #[.slice A0 ts.length c0, .slice A1 ks.length c1, .slice A2 fs.length c2, .int .i64 tn, .bool st], .int .i64 wk] w (GaveS [] w (noO (poolB a b c d e ts ks fs tn) ts ks fs tn st 8)) := by
 have H := hide h
 clear h
 have hNo := hide (fun (V : World) (hV : InPool V ts ks fs A0 A1 A2) => l6No_s a b c d e ts ks fs A0 A1 A2 c0 c1 c2 tn st 8 V ht hk hf hV)
 generalize noO (poolB a b c d e ts ks fs tn) ts ks fs tn st 8 = o at hNo ⊢
 have HY := hide (⟨hfr, hm, trivial⟩ : _ ∧ _ ∧ True)
 clear hfr hm
 go_enter Tryz.func17, Tryz.ntmps17
 go_wp2_with fail
 generalize hW : (((w.alloc _).alloc _).alloc _).alloc _ = W1
 have M := Sep.e4 hW
 clear hW
 obtain ⟨tX, Ah, Ad, Ab, Ag, Ac⟩ := M.q5 2 rfl
 obtain ⟨tP, Aa, Af, Aj, Ai, Ae⟩ := M.q5 3 rfl
 go_call (firstReady_v ts A0 A1 A2 c0 ks.length c1 fs.length c2 tn st fr HY.out.1 _ ht (H.out.below M.below).1) as r W2 ⟨rfl, g1⟩
 clear tX Ah Ad Ab Ag Ac tP Aa Af Aj Ai Ae
 replace M := M.call g1
 clear g1
 obtain ⟨tX, Ah, Ad, Ab, Ag, Ac⟩ := M.q5 2 rfl
 obtain ⟨tP, Aa, Af, Aj, Ai, Ae⟩ := M.q5 3 rfl
 go_wp2_with fail
 go_call (l6May_v a b c d e ts ks fs A0 A1 A2 c0 c1 c2 tn st wk false HY.out.2.1 _ ht hk hf (H.out.below M.below)) as r W3 ⟨rfl, g1⟩
 clear tX Ah Ad Ab Ag Ac tP Aa Af Aj Ai Ae
 replace M := M.call g1
 clear g1
 obtain ⟨tX, Ah, Ad, Ab, Ag, Ac⟩ := M.q5 2 rfl
 obtain ⟨tP, Aa, Af, Aj, Ai, Ae⟩ := M.q5 3 rfl
 go_wp2_with fail
 go_call (hNo.out _ (H.out.below M.below)) as r W4 ⟨B0, B1, B2, d0, d1, d2, rfl, g1⟩
 clear tX Ah Ad Ab Ag Ac tP Aa Af Aj Ai Ae
 replace M := Sep.new M g1
 simp only [zC, zN] at M
 clear g1
 obtain ⟨tS, Ak, Ax, Ao, Aw⟩ := M.f2 3 rfl
 obtain ⟨tR, Am, As, Aq, At, An, Av, Ap, Au, Al, Ar⟩ := M.f5 4 rfl
 go_wp2_with fail
 clear tS Ak Ax Ao Aw tR Am As Aq At An Av Ap Au Al Ar
 have N := M.gset5 4 rfl (.slice B0 o.ts.length d0) (.slice B1 o.ks.length d1) (.slice B2 o.fs.length d2) (.int .i64 o.tn) (.bool o.st)
 clear M
 obtain ⟨W5, eW, M⟩ := N
 rw [eW]
 clear eW
 simp only [zZ, zS] at M
 have N := M.gset2 3 rfl (.int .i64 o.rp) (.int .i64 o.ou)
 clear M
 obtain ⟨W6, eW, M⟩ := N
 rw [eW]
 clear eW
 simp only [zZ, zS] at M
 obtain ⟨tS, Ak, Ao⟩ := M.q2 3 rfl
 obtain ⟨tR, Am, Aq, An, Ap, Al⟩ := M.q5 4 rfl
 exact bodyPost_ret (by simp [results, Tryz.results17, go_sem, Am, Aq, An, Ap, Al, Ak, Ao]) rfl ⟨B0, B1, B2, d0, d1, d2, rfl, M.take 3⟩
theorem taken_busy (a b c d e : Int) (ts : List T7) (ks : List Int) (fs : List F2) (A0 A1 A2 : Option Addr) (c0 c1 c2 : Nat) (tn : Int) (st : Bool) (wk : Int) (w : World) (ht : ts.length ≤ 1048576) (hk : ks.length ≤ 1048576) (hf : fs.length ≤ 1048576) (h : InPool w ts ks fs A0 A1 A2) (fr : Int) (hfr : firstM ts = fr) (hm : mayB a b c d e ts ks fs tn wk = true) (me : Int) (hme : runM ts wk 0 = me) (h0 : 0 ≤ me) :
 Calls Tryz.prog 17 #[.agg #[.int .i64 a, .int .i64 b, .int .i64 c, .int .i64 d, .int .i64 e], .agg #[.slice A0 ts.length c0, .slice A1 ks.length c1, .slice A2 fs.length c2, .int .i64 tn, .bool st], .int .i64 wk] w (GaveS [] w (noO (poolB a b c d e ts ks fs tn) ts ks fs tn st 3)) := by
 have H := hide h
 clear h
 have hNo := hide (fun (V : World) (hV : InPool V ts ks fs A0 A1 A2) => l6No_s a b c d e ts ks fs A0 A1 A2 c0 c1 c2 tn st 3 V ht hk hf hV)
 generalize noO (poolB a b c d e ts ks fs tn) ts ks fs tn st 3 = o at hNo ⊢
 have HY := hide (⟨hfr, hm, hme, trivial⟩ : _ ∧ _ ∧ _ ∧ True)
 clear hfr hm hme
 go_enter Tryz.func17, Tryz.ntmps17
 go_wp2_with fail
 generalize hW : (((w.alloc _).alloc _).alloc _).alloc _ = W1
 have M := Sep.e4 hW
 clear hW
 obtain ⟨tX, Ah, Ad, Ab, Ag, Ac⟩ := M.q5 2 rfl
 obtain ⟨tP, Aa, Af, Aj, Ai, Ae⟩ := M.q5 3 rfl
 go_call (firstReady_v ts A0 A1 A2 c0 ks.length c1 fs.length c2 tn st fr HY.out.1 _ ht (H.out.below M.below).1) as r W2 ⟨rfl, g1⟩
 clear tX Ah Ad Ab Ag Ac tP Aa Af Aj Ai Ae
 replace M := M.call g1
 clear g1
 obtain ⟨tX, Ah, Ad, Ab, Ag, Ac⟩ := M.q5 2 rfl
 obtain ⟨tP, Aa, Af, Aj, Ai, Ae⟩ := M.q5 3 rfl
 go_wp2_with fail
 go_call (l6May_v a b c d e ts ks fs A0 A1 A2 c0 c1 c2 tn st wk true HY.out.2.1 _ ht hk hf (H.out.below M.below)) as r W3 ⟨rfl, g1⟩
 clear tX Ah Ad Ab Ag Ac tP Aa Af Aj Ai Ae
 replace M := M.call g1
 clear g1
 obtain ⟨tX, Ah, Ad, Ab, Ag, Ac⟩ := M.q5 2 rfl
 obtain ⟨tP, Aa, Af, Aj, Ai, Ae⟩ := M.q5 3 rfl
 go_wp2_with fail
 go_call (sRunBy_v ts A0 A1 A2 c0 ks.length c1 fs.length c2 tn st wk me HY.out.2.2.1 _ ht (H.out.below M.below).1) as r W4 ⟨rfl, g1⟩
 clear tX Ah Ad Ab Ag Ac tP Aa Af Aj Ai Ae
 replace M := M.call g1
 clear g1
 obtain ⟨tX, Ah, Ad, Ab, Ag, Ac⟩ := M.q5 2 rfl
 obtain ⟨tP, Aa, Af, Aj, Ai, Ae⟩ := M.q5 3 rfl
 go_wp2_with fail
 go_call (hNo.out _ (H.out.below M.below)) as r W5 ⟨B0, B1, B2, d0, d1, d2, rfl, g1⟩
 clear tX Ah Ad Ab Ag Ac tP Aa Af Aj Ai Ae
 replace M := Sep.new M g1
 simp only [zC, zN] at M
 clear g1
 obtain ⟨tS, Ak, Ax, Ao, Aw⟩ := M.f2 3 rfl
 obtain ⟨tR, Am, As, Aq, At, An, Av, Ap, Au, Al, Ar⟩ := M.f5 4 rfl
 go_wp2_with fail
 clear tS Ak Ax Ao Aw tR Am As Aq At An Av Ap Au Al Ar
 have N := M.gset5 4 rfl (.slice B0 o.ts.length d0) (.slice B1 o.ks.length d1) (.slice B2 o.fs.length d2) (.int .i64 o.tn) (.bool o.st)
 clear M
 obtain ⟨W6, eW, M⟩ := N
 rw [eW]
 clear eW
 simp only [zZ, zS] at M
 have N := M.gset2 3 rfl (.int .i64 o.rp) (.int .i64 o.ou)
 clear M
 obtain ⟨W7, eW, M⟩ := N
 rw [eW]
 clear eW
 simp only [zZ, zS] at M
 obtain ⟨tS, Ak, Ao⟩ := M.q2 3 rfl
 obtain ⟨tR, Am, Aq, An, Ap, Al⟩ := M.q5 4 rfl
 exact bodyPost_ret (by simp [results, Tryz.results17, go_sem, Am, Aq, An, Ap, Al, Ak, Ao]) rfl ⟨B0, B1, B2, d0, d1, d2, rfl, M.take 3⟩
theorem taken_stop (a b c d e : Int) (ts : List T7) (ks : List Int) (fs : List F2) (A0 A1 A2 : Option Addr) (c0 c1 c2 : Nat) (tn : Int) (wk : Int) (w : World) (ht : ts.length ≤ 1048576) (hk : ks.length ≤ 1048576) (hf : fs.length ≤ 1048576) (h : InPool w ts ks fs A0 A1 A2) (fr : Int) (hfr : firstM ts = fr) (hm : mayB a b c d e ts ks fs tn wk = true) (me : Int) (hme : runM ts wk 0 = me) (h0 : me < 0) (h1 : fr < 0) :
 Calls Tryz.prog 17 #[.agg #[.int .i64 a, .int .i64 b, .int .i64 c, .int .i64 d, .int .i64 e], .agg #[.slice A0 ts.length c0, .slice A1 ks.length c1, .slice A2 fs.length c2, .int .i64 tn, .bool true], .int .i64 wk] w (GaveS [] w (noO (poolB a b c d e ts ks fs tn) ts ks fs tn true 6)) := by
 have H := hide h
 clear h
 have hNo := hide (fun (V : World) (hV : InPool V ts ks fs A0 A1 A2) => l6No_s a b c d e ts ks fs A0 A1 A2 c0 c1 c2 tn true 6 V ht hk hf hV)
 generalize noO (poolB a b c d e ts ks fs tn) ts ks fs tn true 6 = o at hNo ⊢
 have HY := hide (⟨hfr, hm, hme, trivial⟩ : _ ∧ _ ∧ _ ∧ True)
 clear hfr hm hme
 go_enter Tryz.func17, Tryz.ntmps17
 go_wp2_with fail
 generalize hW : (((w.alloc _).alloc _).alloc _).alloc _ = W1
 have M := Sep.e4 hW
 clear hW
 obtain ⟨tX, Ah, Ad, Ab, Ag, Ac⟩ := M.q5 2 rfl
 obtain ⟨tP, Aa, Af, Aj, Ai, Ae⟩ := M.q5 3 rfl
 go_call (firstReady_v ts A0 A1 A2 c0 ks.length c1 fs.length c2 tn true fr HY.out.1 _ ht (H.out.below M.below).1) as r W2 ⟨rfl, g1⟩
 clear tX Ah Ad Ab Ag Ac tP Aa Af Aj Ai Ae
 replace M := M.call g1
 clear g1
 obtain ⟨tX, Ah, Ad, Ab, Ag, Ac⟩ := M.q5 2 rfl
 obtain ⟨tP, Aa, Af, Aj, Ai, Ae⟩ := M.q5 3 rfl
 go_wp2_with fail
 go_call (l6May_v a b c d e ts ks fs A0 A1 A2 c0 c1 c2 tn true wk true HY.out.2.1 _ ht hk hf (H.out.below M.below)) as r W3 ⟨rfl, g1⟩
 clear tX Ah Ad Ab Ag Ac tP Aa Af Aj Ai Ae
 replace M := M.call g1
 clear g1
 obtain ⟨tX, Ah, Ad, Ab, Ag, Ac⟩ := M.q5 2 rfl
 obtain ⟨tP, Aa, Af, Aj, Ai, Ae⟩ := M.q5 3 rfl
 go_wp2_with fail
 go_call (sRunBy_v ts A0 A1 A2 c0 ks.length c1 fs.length c2 tn true wk me HY.out.2.2.1 _ ht (H.out.below M.below).1) as r W4 ⟨rfl, g1⟩
 clear tX Ah Ad Ab Ag Ac tP Aa Af Aj Ai Ae
 replace M := M.call g1
 clear g1
 obtain ⟨tX, Ah, Ad, Ab, Ag, Ac⟩ := M.q5 2 rfl
 obtain ⟨tP, Aa, Af, Aj, Ai, Ae⟩ := M.q5 3 rfl
 go_wp2_with fail
 go_call (hNo.out _ (H.out.below M.below)) as r W5 ⟨B0, B1, B2, d0, d1, d2, rfl, g1⟩
 clear tX Ah Ad Ab Ag Ac tP Aa Af Aj Ai Ae
 replace M := Sep.new M g1
 simp only [zC, zN] at M
 clear g1
 obtain ⟨tS, Ak, Ax, Ao, Aw⟩ := M.f2 3 rfl
 obtain ⟨tR, Am, As, Aq, At, An, Av, Ap, Au, Al, Ar⟩ := M.f5 4 rfl
 go_wp2_with fail
 clear tS Ak Ax Ao Aw tR Am As Aq At An Av Ap Au Al Ar
 have N := M.gset5 4 rfl (.slice B0 o.ts.length d0) (.slice B1 o.ks.length d1) (.slice B2 o.fs.length d2) (.int .i64 o.tn) (.bool o.st)
 clear M
 obtain ⟨W6, eW, M⟩ := N
 rw [eW]
 clear eW
 simp only [zZ, zS] at M
 have N := M.gset2 3 rfl (.int .i64 o.rp) (.int .i64 o.ou)
 clear M
 obtain ⟨W7, eW, M⟩ := N
 rw [eW]
 clear eW
 simp only [zZ, zS] at M
 obtain ⟨tS, Ak, Ao⟩ := M.q2 3 rfl
 obtain ⟨tR, Am, Aq, An, Ap, Al⟩ := M.q5 4 rfl
 exact bodyPost_ret (by simp [results, Tryz.results17, go_sem, Am, Aq, An, Ap, Al, Ak, Ao]) rfl ⟨B0, B1, B2, d0, d1, d2, rfl, M.take 3⟩
theorem taken_none (a b c d e : Int) (ts : List T7) (ks : List Int) (fs : List F2) (A0 A1 A2 : Option Addr) (c0 c1 c2 : Nat) (tn : Int) (wk : Int) (w : World) (ht : ts.length ≤ 1048576) (hk : ks.length ≤ 1048576) (hf : fs.length ≤ 1048576) (h : InPool w ts ks fs A0 A1 A2) (fr : Int) (hfr : firstM ts = fr) (hm : mayB a b c d e ts ks fs tn wk = true) (me : Int) (hme : runM ts wk 0 = me) (h0 : me < 0) (h1 : fr < 0) :
 Calls Tryz.prog 17 #[.agg #[.int .i64 a, .int .i64 b, .int .i64 c, .int .i64 d, .int .i64 e], .agg #[.slice A0 ts.length c0, .slice A1 ks.length c1, .slice A2 fs.length c2, .int .i64 tn, .bool false], .int .i64 wk] w (GaveS [] w (noO (poolB a b c d e ts ks fs tn) ts ks fs tn false 2)) := by
 have H := hide h
 clear h
 have hNo := hide (fun (V : World) (hV : InPool V ts ks fs A0 A1 A2) => l6No_s a b c d e ts ks fs A0 A1 A2 c0 c1 c2 tn false 2 V ht hk hf hV)
 generalize noO (poolB a b c d e ts ks fs tn) ts ks fs tn false 2 = o at hNo ⊢
 have HY := hide (⟨hfr, hm, hme, trivial⟩ : _ ∧ _ ∧ _ ∧ True)
 clear hfr hm hme
 go_enter Tryz.func17, Tryz.ntmps17
 go_wp2_with fail
 generalize hW : (((w.alloc _).alloc _).alloc _).alloc _ = W1
 have M := Sep.e4 hW
 clear hW
 obtain ⟨tX, Ah, Ad, Ab, Ag, Ac⟩ := M.q5 2 rfl
 obtain ⟨tP, Aa, Af, Aj, Ai, Ae⟩ := M.q5 3 rfl
 go_call (firstReady_v ts A0 A1 A2 c0 ks.length c1 fs.length c2 tn false fr HY.out.1 _ ht (H.out.below M.below).1) as r W2 ⟨rfl, g1⟩
 clear tX Ah Ad Ab Ag Ac tP Aa Af Aj Ai Ae
 replace M := M.call g1
 clear g1
 obtain ⟨tX, Ah, Ad, Ab, Ag, Ac⟩ := M.q5 2 rfl
 obtain ⟨tP, Aa, Af, Aj, Ai, Ae⟩ := M.q5 3 rfl
 go_wp2_with fail
 go_call (l6May_v a b c d e ts ks fs A0 A1 A2 c0 c1 c2 tn false wk true HY.out.2.1 _ ht hk hf (H.out.below M.below)) as r W3 ⟨rfl, g1⟩
 clear tX Ah Ad Ab Ag Ac tP Aa Af Aj Ai Ae
 replace M := M.call g1
 clear g1
 obtain ⟨tX, Ah, Ad, Ab, Ag, Ac⟩ := M.q5 2 rfl
 obtain ⟨tP, Aa, Af, Aj, Ai, Ae⟩ := M.q5 3 rfl
 go_wp2_with fail
 go_call (sRunBy_v ts A0 A1 A2 c0 ks.length c1 fs.length c2 tn false wk me HY.out.2.2.1 _ ht (H.out.below M.below).1) as r W4 ⟨rfl, g1⟩
 clear tX Ah Ad Ab Ag Ac tP Aa Af Aj Ai Ae
 replace M := M.call g1
 clear g1
 obtain ⟨tX, Ah, Ad, Ab, Ag, Ac⟩ := M.q5 2 rfl
 obtain ⟨tP, Aa, Af, Aj, Ai, Ae⟩ := M.q5 3 rfl
 go_wp2_with fail
 go_call (hNo.out _ (H.out.below M.below)) as r W5 ⟨B0, B1, B2, d0, d1, d2, rfl, g1⟩
 clear tX Ah Ad Ab Ag Ac tP Aa Af Aj Ai Ae
 replace M := Sep.new M g1
 simp only [zC, zN] at M
 clear g1
 obtain ⟨tS, Ak, Ax, Ao, Aw⟩ := M.f2 3 rfl
 obtain ⟨tR, Am, As, Aq, At, An, Av, Ap, Au, Al, Ar⟩ := M.f5 4 rfl
 go_wp2_with fail
 clear tS Ak Ax Ao Aw tR Am As Aq At An Av Ap Au Al Ar
 have N := M.gset5 4 rfl (.slice B0 o.ts.length d0) (.slice B1 o.ks.length d1) (.slice B2 o.fs.length d2) (.int .i64 o.tn) (.bool o.st)
 clear M
 obtain ⟨W6, eW, M⟩ := N
 rw [eW]
 clear eW
 simp only [zZ, zS] at M
 have N := M.gset2 3 rfl (.int .i64 o.rp) (.int .i64 o.ou)
 clear M
 obtain ⟨W7, eW, M⟩ := N
 rw [eW]
 clear eW
 simp only [zZ, zS] at M
 obtain ⟨tS, Ak, Ao⟩ := M.q2 3 rfl
 obtain ⟨tR, Am, Aq, An, Ap, Al⟩ := M.q5 4 rfl
 exact bodyPost_ret (by simp [results, Tryz.results17, go_sem, Am, Aq, An, Ap, Al, Ak, Ao]) rfl ⟨B0, B1, B2, d0, d1, d2, rfl, M.take 3⟩
theorem taken_main (a b c d e : Int) (ts : List T7) (ks : List Int) (fs : List F2) (A0 A1 A2 : Option Addr) (c0 c1 c2 : Nat) (tn : Int) (st : Bool) (wk : Int) (w : World) (ht : ts.length ≤ 1048576) (hk : ks.length ≤ 1048576) (hf : fs.length ≤ 1048576) (h : InPool w ts ks fs A0 A1 A2) (k : Nat) (s l o1 wt on v t : Int) (hts : ts[k]? = some ⟨s, l, o1, wt, on, v, t⟩) (hfr : firstM ts = k) (hm : mayB a b c d e ts ks fs tn wk = true) (me : Int) (hme : runM ts wk 0 = me) (h0 : me < 0) :
 Calls Tryz.prog 17 #[.agg #[.int .i64 a, .int .i64 b, .int .i64 c, .int .i64 d, .int .i64 e], .agg #[.slice A0 ts.length c0, .slice A1 ks.length c1, .slice A2 fs.length c2, .int .i64 tn, .bool st], .int .i64 wk] w (GaveS [] w (doneO (poolB a b c d e (ts.set k ⟨2, l, wk, wt, on, v, t⟩) ks fs tn) ts ks fs tn st (ts.set k ⟨2, l, wk, wt, on, v, t⟩) ks fs tn st 1 (k : Int))) := by
 have H := hide h
 clear h
 have hkl : k < ts.length := by
  rcases Nat.lt_or_ge k ts.length with h1 | h1
  ·exact h1
  ·rw [List.getElem?_eq_none h1] at hts; cases hts
 have hpo : poolB a b c d e ts ks fs tn = true := by
  have h1 := hm
  simp only [mayB, Bool.and_eq_true] at h1
  exact h1.1
 have hDn : Hid (∀ (A0x A1x A2x : Option Addr) (c0x c1x c2x : Nat) (rs : List Res) (V : World), InPool V ts ks fs A0 A1 A2 → Sep [] w V ([rT ts.length A0x c0x (ts.set k ⟨2, l, wk, wt, on, v, t⟩), rK ks.length A1x c1x ks, rF fs.length A2x c2x fs] ++ rs) → Calls Tryz.prog 56 #[.agg #[.int .i64 a, .int .i64 b, .int .i64 c, .int .i64 d, .int .i64 e], .agg #[.slice A0 ts.length c0, .slice A1 ks.length c1, .slice A2 fs.length c2, .int .i64 tn, .bool st], .agg #[.slice A0x ts.length c0x, .slice A1x ks.length c1x, .slice A2x fs.length c2x, .int .i64 tn, .bool st], .int .i64 1, .int .i64 (k : Int)] V (GaveS [rT ts.length A0x c0x (ts.set k ⟨2, l, wk, wt, on, v, t⟩), rK ks.length A1x c1x ks, rF fs.length A2x c2x fs] V (doneO (poolB a b c d e (ts.set k ⟨2, l, wk, wt, on, v, t⟩) ks fs tn) ts ks fs tn st (ts.set k ⟨2, l, wk, wt, on, v, t⟩) ks fs tn st 1 (k : Int)))) := hide (fun A0x A1x A2x c0x c1x c2x rs V h1 h2 => l6Done_s a b c d e ts ks fs A0 A1 A2 c0 c1 c2 tn st ts.length ks.length fs.length (ts.set k ⟨2, l, wk, wt, on, v, t⟩) ks fs A0x A1x A2x c0x c1x c2x tn st 1 (k : Int) V (by simp) rfl rfl hpo ht hk hf ht hk hf h1 h2)
 clear hpo
 generalize doneO (poolB a b c d e (ts.set k ⟨2, l, wk, wt, on, v, t⟩) ks fs tn) ts ks fs tn st (ts.set k ⟨2, l, wk, wt, on, v, t⟩) ks fs tn st 1 (k : Int) = o at hDn ⊢
 have HY := hide (⟨hfr, hm, hme, hts, trivial⟩ : _ ∧ _ ∧ _ ∧ _ ∧ True)
 clear hfr hm hme hts
 go_enter Tryz.func17, Tryz.ntmps17
 go_wp2_with fail
 generalize hW : (((w.alloc _).alloc _).alloc _).alloc _ = W1
 have M := Sep.e4 hW
 clear hW
 obtain ⟨tX, Ah, Ad, Ab, Ag, Ac⟩ := M.q5 2 rfl
 obtain ⟨tP, Aa, Af, Aj, Ai, Ae⟩ := M.q5 3 rfl
 go_call (firstReady_v ts A0 A1 A2 c0 ks.length c1 fs.length c2 tn st k HY.out.1 _ ht (H.out.below M.below).1) as r W2 ⟨rfl, g1⟩
 clear tX Ah Ad Ab Ag Ac tP Aa Af Aj Ai Ae
 replace M := M.call g1
 clear g1
 obtain ⟨tX, Ah, Ad, Ab, Ag, Ac⟩ := M.q5 2 rfl
 obtain ⟨tP, Aa, Af, Aj, Ai, Ae⟩ := M.q5 3 rfl
 go_wp2_with fail
 go_call (l6May_v a b c d e ts ks fs A0 A1 A2 c0 c1 c2 tn st wk true HY.out.2.1 _ ht hk hf (H.out.below M.below)) as r W3 ⟨rfl, g1⟩
 clear tX Ah Ad Ab Ag Ac tP Aa Af Aj Ai Ae
 replace M := M.call g1
 clear g1
 obtain ⟨tX, Ah, Ad, Ab, Ag, Ac⟩ := M.q5 2 rfl
 obtain ⟨tP, Aa, Af, Aj, Ai, Ae⟩ := M.q5 3 rfl
 go_wp2_with fail
 go_call (sRunBy_v ts A0 A1 A2 c0 ks.length c1 fs.length c2 tn st wk me HY.out.2.2.1 _ ht (H.out.below M.below).1) as r W4 ⟨rfl, g1⟩
 clear tX Ah Ad Ab Ag Ac tP Aa Af Aj Ai Ae
 replace M := M.call g1
 clear g1
 obtain ⟨tX, Ah, Ad, Ab, Ag, Ac⟩ := M.q5 2 rfl
 obtain ⟨tP, Aa, Af, Aj, Ai, Ae⟩ := M.q5 3 rfl
 go_wp2_with fail
 go_call (l3Copy_s ts ks fs A0 A1 A2 c0 c1 c2 tn st _ ht hk hf (H.out.below M.below)) as r W5 ⟨C0, C1, C2, e0, e1, e2, rfl, g1⟩
 clear tX Ah Ad Ab Ag Ac tP Aa Af Aj Ai Ae
 replace M := Sep.new M g1
 simp only [zC, zN] at M
 clear g1
 obtain ⟨g, rfl, hgl, hfz⟩ := rT_form (M.here _ (List.mem_cons_self)) (by omega)
 obtain ⟨tX, Ah, Ad, Ab, Ag, Ac⟩ := M.q5 5 rfl
 obtain ⟨tP, Aa, Af, Aj, Ai, Ae⟩ := M.q5 6 rfl
 have nS := M.ne 0 3 (by omega) rfl rfl rfl rfl
 have nR := M.ne 0 4 (by omega) rfl rfl rfl rfl
 have nX := M.ne 0 5 (by omega) rfl rfl rfl rfl
 have nP := M.ne 0 6 (by omega) rfl rfl rfl rfl
 have fz0 : W5.frozen? ⟨g, k * 7, none⟩ = false := hfz _
 have fz2 : W5.frozen? ⟨g, k * 7 + 2, none⟩ = false := hfz _
 clear hfz
 obtain ⟨s', l', o', wt', on', v', t', ht', y0, y1, y2, y3, y4, y5, y6⟩ := Own.t7 (M.rowAt 0 rfl) hkl
 clear ht' y1 y3 y4 y5 y6
 go_wp2_with fail
 clear tX Ah Ad Ab Ag Ac tP Aa Af Aj Ai Ae nS nR nX nP
 replace M : Sep [] w ((W5.setCell ⟨g, k * 7, none⟩ (.int .i64 2)).setCell ⟨g, k * 7 + 2, none⟩ (.int .i64 wk)) [rT ts.length (some ⟨g, 0, none⟩) e0 (ts.set k ⟨2, l, wk, wt, on, v, t⟩), rK ks.length C1 e1 ks, rF fs.length C2 e2 fs, .blk (w.heap.size + 3) 38 #[.int .i64 0, .int .i64 0], .blk (w.heap.size + 2) 35 #[.slice none 0 0, .slice none 0 0, .slice none 0 0, .int .i64 0, .bool false], .blk (w.heap.size + 1) 35 #[.slice A0 ts.length c0, .slice A1 ks.length c1, .slice A2 fs.length c2, .int .i64 tn, .bool st], .blk (w.heap.size) 28 #[.int .i64 a, .int .i64 b, .int .i64 c, .int .i64 d, .int .i64 e]] := M.putT2 0 rfl k 0 2 (by omega) (by omega) ⟨s, l, o1, wt, on, v, t⟩ 2 wk HY.out.2.2.2.1
 replace M : Sep [] w (((W5.setCell ⟨g, k * 7, none⟩ (.int .i64 2)).setCell ⟨g, k * 7 + 2, none⟩ (.int .i64 wk)).alloc (.cells #[.slice (some ⟨g, 0, none⟩) ts.length e0, .slice C1 ks.length e1, .slice C2 fs.length e2, .int .i64 tn, .bool st] 35)) [.blk (W5.heap.size) 35 #[.slice (some ⟨g, 0, none⟩) ts.length e0, .slice C1 ks.length e1, .slice C2 fs.length e2, .int .i64 tn, .bool st], rT ts.length (some ⟨g, 0, none⟩) e0 (ts.set k ⟨2, l, wk, wt, on, v, t⟩), rK ks.length C1 e1 ks, rF fs.length C2 e2 fs, .blk (w.heap.size + 3) 38 #[.int .i64 0, .int .i64 0], .blk (w.heap.size + 2) 35 #[.slice none 0 0, .slice none 0 0, .slice none 0 0, .int .i64 0, .bool false], .blk (w.heap.size + 1) 35 #[.slice A0 ts.length c0, .slice A1 ks.length c1, .slice A2 fs.length c2, .int .i64 tn, .bool st], .blk (w.heap.size) 28 #[.int .i64 a, .int .i64 b, .int .i64 c, .int .i64 d, .int .i64 e]] := M.alloc 35 #[.slice (some ⟨g, 0, none⟩) ts.length e0, .slice C1 ks.length e1, .slice C2 fs.length e2, .int .i64 tn, .bool st] _ (by simp [World.setCell])
 generalize ((W5.setCell ⟨g, k * 7, none⟩ (.int .i64 2)).setCell ⟨g, k * 7 + 2, none⟩ (.int .i64 wk)).alloc (.cells #[.slice (some ⟨g, 0, none⟩) ts.length e0, .slice C1 ks.length e1, .slice C2 fs.length e2, .int .i64 tn, .bool st] 35) = W6 at M ⊢
 clear fz0 y0 fz2 y2
 replace M : Sep [] w W6 [rT ts.length (some ⟨g, 0, none⟩) e0 (ts.set k ⟨2, l, wk, wt, on, v, t⟩), rK ks.length C1 e1 ks, rF fs.length C2 e2 fs, .blk (W5.heap.size) 35 #[.slice (some ⟨g, 0, none⟩) ts.length e0, .slice C1 ks.length e1, .slice C2 fs.length e2, .int .i64 tn, .bool st], .blk (w.heap.size + 3) 38 #[.int .i64 0, .int .i64 0], .blk (w.heap.size + 2) 35 #[.slice none 0 0, .slice none 0 0, .slice none 0 0, .int .i64 0, .bool false], .blk (w.heap.size + 1) 35 #[.slice A0 ts.length c0, .slice A1 ks.length c1, .slice A2 fs.length c2, .int .i64 tn, .bool st], .blk (w.heap.size) 28 #[.int .i64 a, .int .i64 b, .int .i64 c, .int .i64 d, .int .i64 e]] := Sep.back (l1 := [rT ts.length (some ⟨g, 0, none⟩) e0 (ts.set k ⟨2, l, wk, wt, on, v, t⟩), rK ks.length C1 e1 ks, rF fs.length C2 e2 fs]) M
 obtain ⟨tY, Bg, Bh, Bd, Bf, Ay, Bc, Bb, Ba, Be, Az⟩ := M.f5 3 rfl
 obtain ⟨tX, Ah, Ad, Ab, Ag, Ac⟩ := M.q5 6 rfl
 obtain ⟨tP, Aa, Af, Aj, Ai, Ae⟩ := M.q5 7 rfl
 go_wp2_with fail
 go_call (hDn.out _ _ _ _ _ _ [.blk (W5.heap.size) 35 #[.slice (some ⟨g, 0, none⟩) ts.length e0, .slice C1 ks.length e1, .slice C2 fs.length e2, .int .i64 tn, .bool st], .blk (w.heap.size + 3) 38 #[.int .i64 0, .int .i64 0], .blk (w.heap.size + 2) 35 #[.slice none 0 0, .slice none 0 0, .slice none 0 0, .int .i64 0, .bool false], .blk (w.heap.size + 1) 35 #[.slice A0 ts.length c0, .slice A1 ks.length c1, .slice A2 fs.length c2, .int .i64 tn, .bool st], .blk (w.heap.size) 28 #[.int .i64 a, .int .i64 b, .int .i64 c, .int .i64 d, .int .i64 e]] _ (H.out.below M.below) M) as r W7 ⟨B0, B1, B2, d0, d1, d2, rfl, g1⟩
 clear tY Bg Bh Bd Bf Ay Bc Bb Ba Be Az tX Ah Ad Ab Ag Ac tP Aa Af Aj Ai Ae
 replace M := Sep.comp (ps := [rT ts.length (some ⟨g, 0, none⟩) e0 (ts.set k ⟨2, l, wk, wt, on, v, t⟩), rK ks.length C1 e1 ks, rF fs.length C2 e2 fs]) M g1
 simp only [zC, zN] at M
 clear g1
 obtain ⟨tS, Ak, Ax, Ao, Aw⟩ := M.f2 4 rfl
 obtain ⟨tR, Am, As, Aq, At, An, Av, Ap, Au, Al, Ar⟩ := M.f5 5 rfl
 go_wp2_with fail
 clear tS Ak Ax Ao Aw tR Am As Aq At An Av Ap Au Al Ar
 have N := M.gset5 5 rfl (.slice B0 o.ts.length d0) (.slice B1 o.ks.length d1) (.slice B2 o.fs.length d2) (.int .i64 o.tn) (.bool o.st)
 clear M
 obtain ⟨W8, eW, M⟩ := N
 rw [eW]
 clear eW
 simp only [zZ, zS] at M
 have N := M.gset2 4 rfl (.int .i64 o.rp) (.int .i64 o.ou)
 clear M
 obtain ⟨W9, eW, M⟩ := N
 rw [eW]
 clear eW
 simp only [zZ, zS] at M
 obtain ⟨tS, Ak, Ao⟩ := M.q2 4 rfl
 obtain ⟨tR, Am, Aq, An, Ap, Al⟩ := M.q5 5 rfl
 exact bodyPost_ret (by simp [results, Tryz.results17, go_sem, Am, Aq, An, Ap, Al, Ak, Ao]) rfl ⟨B0, B1, B2, d0, d1, d2, rfl, M.take 3⟩
end Go.Proofs.YtfkdfkoigojciaaGreatDoor
