/- The model's Woken and ParkedBy, way by way. Lists no longer than a million. -/
import Derived.Test.YtfjgelegojbmgaaGreatQB05
import Derived.Test.YtfjgelegojbmgaaGreatRows
import Derived.WalkKit
import Derived.ProofKit
import Derived.OpenShut
import Derived.Carry
import Derived.Below
import Derived.ChangeOld
import Derived.Lib.SmallJoins
import Derived.Test.YtfjgelegojbmgaaGreatQB32
import Derived.Test.YtfjgelegojbmgaaGreatQB34
import Derived.Test.YtfjgelegojbmgaaGreatQB20
import Derived.Test.YtfjgelegojbmgaaGreatQB04
import Derived.Test.YtfjgelegojbmgaaGreatQB14

namespace Go.Proofs.YtfjgelegojbmgaaGreat
open Go.RowKit
set_option linter.unusedVariables false
def countM : List T7 → Int → Nat
 | [], _ => 0
 | t :: r, s => if t.s = s then countM r s + 1 else countM r s
theorem countM_take (ts : List T7) (s : Int) (k : Nat) : countM (ts.take k) s + countM (ts.drop k) s = countM ts s := by
 induction ts generalizing k with
 | nil => simp [countM]
 | cons t r ih =>
  cases k with
  | zero => simp [countM]
  | succ k => simp only [List.take_succ_cons, List.drop_succ_cons, countM]; have := ih k; split <;> omega
open Go.ChangeShapes Go.WideShapes Go.ChangeAt Go.RowKit Go.Joins Go.Deep
theorem own : ownKnob Tryz.prog.godebug = none := by kernel_rfl
theorem laidOut : laidOutB Tryz.prog = true := by kernel_rfl
section
variable {H : Type} {enc : TypeId × Value → H} {P : Program} {w : World} {base : Nat} {spare : Nat → Bool} {held : Bool}
end
def TurnO (m : Int) (o : OutP) : Prop := o.tn ≤ m
theorem TurnO.ite {m : Int} {p : Prop} [Decidable p] {x y : OutP} (hx : TurnO m x) (hy : TurnO m y) : TurnO m (if p then x else y) := by
 split
 ·exact hx
 ·exact hy
section
variable {a b c d e : Int} {ts : List T7} {ks : List Int} {fs : List F2} {tn m : Int} {st : Bool}
theorem noO_turn (z : Bool) (rp : Int) (h0 : 0 ≤ m) (h : tn ≤ m) : TurnO m (noO z ts ks fs tn st rp) := by
 unfold noO TurnO
 split
 ·exact h
 ·exact h0
theorem doneO_turn (z : Bool) (us : List T7) (ks2 : List Int) (fs2 : List F2) (tn2 : Int) (st2 : Bool) (rp ou : Int) (h : tn ≤ m) (h2 : tn2 ≤ m) : TurnO m (doneO z ts ks fs tn st us ks2 fs2 tn2 st2 rp ou) := by
 unfold doneO TurnO
 split
 ·exact h2
 ·exact h
theorem waiters_lt (us : List T7) (wt on : Int) : (waitersM us wt on).length ≤ us.length := lineM_length _ _ _
theorem waiters_set (k : Nat) (x : T7) (wt on : Int) : (waitersM (ts.set k x) wt on).length ≤ ts.length := by have := waiters_lt (ts.set k x) wt on; rwa [List.length_set] at this
theorem wset_le {k : Nat} {x : T7} {wt on : Int} (h : tn + ts.length + 1 ≤ m) : tn + ((waitersM (ts.set k x) wt on).length : Int) ≤ m := by have := waiters_set (ts := ts) k x wt on; omega
theorem wall_le {wt on : Int} (h : tn + ts.length + 1 ≤ m) : tn + ((waitersM ts wt on).length : Int) ≤ m := by have := waiters_lt ts wt on; omega
theorem spawn_turn (wk lv : Int) (h0 : 0 ≤ m) (h : tn + ts.length + 1 ≤ m) : TurnO m (spawnM a b c d e ts ks fs tn st wk lv) := by
 unfold spawnM
 repeat' (with_reducible refine TurnO.ite ?_ ?_)
 all_goals (try split)
 all_goals first | exact noO_turn _ _ h0 (by omega) | (refine doneO_turn _ _ _ _ _ _ _ _ (by omega) ?_; first | omega | (with_reducible exact wall_le h) | (with_reducible exact wset_le h)) | (show _ ≤ m; simp only; omega)
theorem take_turn (wk : Int) (h0 : 0 ≤ m) (h : tn + ts.length + 1 ≤ m) : TurnO m (takeM a b c d e ts ks fs tn st wk) := by
 unfold takeM
 repeat' (with_reducible refine TurnO.ite ?_ ?_)
 all_goals (try split)
 all_goals first | exact noO_turn _ _ h0 (by omega) | (refine doneO_turn _ _ _ _ _ _ _ _ (by omega) ?_; first | omega | (with_reducible exact wall_le h) | (with_reducible exact wset_le h)) | (show _ ≤ m; simp only; omega)
theorem yield_turn (wk : Int) (h0 : 0 ≤ m) (h : tn + ts.length + 1 ≤ m) : TurnO m (yieldM a b c d e ts ks fs tn st wk) := by
 unfold yieldM
 repeat' (with_reducible refine TurnO.ite ?_ ?_)
 all_goals (try split)
 all_goals first | exact noO_turn _ _ h0 (by omega) | (refine doneO_turn _ _ _ _ _ _ _ _ (by omega) ?_; first | omega | (with_reducible exact wall_le h) | (with_reducible exact wset_le h)) | (show _ ≤ m; simp only; omega)
theorem end__turn (wk vv : Int) (h0 : 0 ≤ m) (h : tn + ts.length + 1 ≤ m) : TurnO m (end_M a b c d e ts ks fs tn st wk vv) := by
 unfold end_M
 repeat' (with_reducible refine TurnO.ite ?_ ?_)
 all_goals (try split)
 all_goals first | exact noO_turn _ _ h0 (by omega) | (refine doneO_turn _ _ _ _ _ _ _ _ (by omega) ?_; first | omega | (with_reducible exact wall_le h) | (with_reducible exact wset_le h)) | (show _ ≤ m; simp only; omega)
theorem join_turn (wk id : Int) (h0 : 0 ≤ m) (h : tn + ts.length + 1 ≤ m) : TurnO m (joinM a b c d e ts ks fs tn st wk id) := by
 unfold joinM
 repeat' (with_reducible refine TurnO.ite ?_ ?_)
 all_goals (try split)
 all_goals first | exact noO_turn _ _ h0 (by omega) | (refine doneO_turn _ _ _ _ _ _ _ _ (by omega) ?_; first | omega | (with_reducible exact wall_le h) | (with_reducible exact wset_le h)) | (show _ ≤ m; simp only; omega)
theorem cancel_turn (wk id : Int) (h0 : 0 ≤ m) (h : tn + ts.length + 1 ≤ m) : TurnO m (cancelM a b c d e ts ks fs tn st wk id) := by
 unfold cancelM
 repeat' (with_reducible refine TurnO.ite ?_ ?_)
 all_goals (try split)
 all_goals first | exact noO_turn _ _ h0 (by omega) | (refine doneO_turn _ _ _ _ _ _ _ _ (by omega) ?_; first | omega | (with_reducible exact wall_le h) | (with_reducible exact wset_le h)) | (show _ ≤ m; simp only; omega)
theorem level_turn (wk id lv : Int) (h0 : 0 ≤ m) (h : tn + ts.length + 1 ≤ m) : TurnO m (levelM a b c d e ts ks fs tn st wk id lv) := by
 unfold levelM
 repeat' (with_reducible refine TurnO.ite ?_ ?_)
 all_goals (try split)
 all_goals first | exact noO_turn _ _ h0 (by omega) | (refine doneO_turn _ _ _ _ _ _ _ _ (by omega) ?_; first | omega | (with_reducible exact wall_le h) | (with_reducible exact wset_le h)) | (show _ ≤ m; simp only; omega)
theorem up_turn (wk id : Int) (h0 : 0 ≤ m) (h : tn + ts.length + 1 ≤ m) : TurnO m (upM a b c d e ts ks fs tn st wk id) := by
 unfold upM
 repeat' (with_reducible refine TurnO.ite ?_ ?_)
 all_goals (try split)
 all_goals first | exact noO_turn _ _ h0 (by omega) | (refine doneO_turn _ _ _ _ _ _ _ _ (by omega) ?_; first | omega | (with_reducible exact wall_le h) | (with_reducible exact wset_le h)) | (show _ ≤ m; simp only; omega)
theorem down_turn (wk id : Int) (h0 : 0 ≤ m) (h : tn + ts.length + 1 ≤ m) : TurnO m (downM a b c d e ts ks fs tn st wk id) := by
 unfold downM
 repeat' (with_reducible refine TurnO.ite ?_ ?_)
 all_goals (try split)
 all_goals first | exact noO_turn _ _ h0 (by omega) | (refine doneO_turn _ _ _ _ _ _ _ _ (by omega) ?_; first | omega | (with_reducible exact wall_le h) | (with_reducible exact wset_le h)) | (show _ ≤ m; simp only; omega)
theorem set_turn (wk id vv : Int) (h0 : 0 ≤ m) (h : tn + ts.length + 1 ≤ m) : TurnO m (setM a b c d e ts ks fs tn st wk id vv) := by
 unfold setM
 repeat' (with_reducible refine TurnO.ite ?_ ?_)
 all_goals (try split)
 all_goals first | exact noO_turn _ _ h0 (by omega) | (refine doneO_turn _ _ _ _ _ _ _ _ (by omega) ?_; first | omega | (with_reducible exact wall_le h) | (with_reducible exact wset_le h)) | (show _ ≤ m; simp only; omega)
theorem got_turn (wk id : Int) (h0 : 0 ≤ m) (h : tn + ts.length + 1 ≤ m) : TurnO m (gotM a b c d e ts ks fs tn st wk id) := by
 unfold gotM
 repeat' (with_reducible refine TurnO.ite ?_ ?_)
 all_goals (try split)
 all_goals first | exact noO_turn _ _ h0 (by omega) | (refine doneO_turn _ _ _ _ _ _ _ _ (by omega) ?_; first | omega | (with_reducible exact wall_le h) | (with_reducible exact wset_le h)) | (show _ ≤ m; simp only; omega)
theorem stop_turn (wk : Int) (h0 : 0 ≤ m) (h : tn + ts.length + 1 ≤ m) : TurnO m (stopM a b c d e ts ks fs tn st wk) := by
 unfold stopM
 repeat' (with_reducible refine TurnO.ite ?_ ?_)
 all_goals (try split)
 all_goals first | exact noO_turn _ _ h0 (by omega) | (refine doneO_turn _ _ _ _ _ _ _ _ (by omega) ?_; first | omega | (with_reducible exact wall_le h) | (with_reducible exact wset_le h)) | (show _ ≤ m; simp only; omega)
theorem applied_turn (wk k x y : Int) (h0 : 0 ≤ m) (h : tn + ts.length + 1 ≤ m) : TurnO m (appliedM a b c d e ts ks fs tn st wk k x y) := by
 unfold appliedM applyM
 repeat' (with_reducible refine TurnO.ite ?_ ?_)
 all_goals first | (with_reducible exact spawn_turn _ _ h0 h) | (with_reducible exact take_turn _ h0 h) | (with_reducible exact yield_turn _ h0 h) | (with_reducible exact end__turn _ _ h0 h) | (with_reducible exact join_turn _ _ h0 h) | (with_reducible exact cancel_turn _ _ h0 h) | (with_reducible exact level_turn _ _ _ h0 h) | (with_reducible exact up_turn _ _ h0 h) | (with_reducible exact down_turn _ _ h0 h) | (with_reducible exact set_turn _ _ _ h0 h) | (with_reducible exact got_turn _ _ h0 h) | (with_reducible exact stop_turn _ h0 h) | exact noO_turn _ _ h0 (by omega)
end
theorem poolB_parts2 {a b c d e : Int} {ts : List T7} {ks : List Int} {fs : List F2} {tn : Int} (h : poolB a b c d e ts ks fs tn = true) : 0 ≤ tn := by
 simp only [poolB, Bool.and_eq_true] at h
 have h1 := h.2.1
 simp [btw] at h1
 exact h1.1
theorem newPool_t (a b c : Int) (dd ee : Nat) (w : World) (hp : planB a b c dd ee = true) : Calls Tryz.prog 64 #[.agg #[.int .i64 a, .int .i64 b, .int .i64 c, .int .i64 dd, .int .i64 ee]] w fun r w' => ∃ (ts : List T7) (ks : List Int) (fs : List F2) (tn : Int) (st : Bool) (B0 B1 B2 : Option Addr) (e0 e1 e2 : Nat), r = .returned (.agg #[.slice B0 ts.length e0, .slice B1 ks.length e1, .slice B2 fs.length e2, .int .i64 tn, .bool st]) ∧ poolB a b c dd ee ts ks fs tn = true ∧ tn ≤ 1 ∧ Sep [] w w' [rT ts.length B0 e0 ts, rK ks.length B1 e1 ks, rF fs.length B2 e2 fs] :=
 (sNewPool_any a b c dd ee w hp).mono fun r w' ⟨B0, B1, B2, e0, e1, e2, hr, ho, hb⟩ => ⟨_, _, _, _, _, B0, B1, B2, e0, e1, e2, hr, newPool_right hp, Int.le_refl _, sepPool (Nat.le_refl _) hb ho⟩
theorem applied_t (a b c d e : Int) (ts : List T7) (ks : List Int) (fs : List F2) (A0 A1 A2 : Option Addr) (c0 c1 c2 : Nat) (tn : Int) (st : Bool) (wk k x y : Int) (w : World) (hp : poolB a b c d e ts ks fs tn = true) (h : InPool w ts ks fs A0 A1 A2) : Calls Tryz.prog 65 #[.agg #[.int .i64 a, .int .i64 b, .int .i64 c, .int .i64 d, .int .i64 e], .agg #[.slice A0 ts.length c0, .slice A1 ks.length c1, .slice A2 fs.length c2, .int .i64 tn, .bool st], .int .i64 wk, .agg #[.int .i64 k, .int .i64 x, .int .i64 y]] w fun r w' => ∃ (ts2 : List T7) (ks2 : List Int) (fs2 : List F2) (tn2 : Int) (st2 : Bool) (rp ou : Int) (B0 B1 B2 : Option Addr) (e0 e1 e2 : Nat), r = .returned (.tuple #[.agg #[.slice B0 ts2.length e0, .slice B1 ks2.length e1, .slice B2 fs2.length e2, .int .i64 tn2, .bool st2], .agg #[.int .i64 rp, .int .i64 ou]]) ∧ poolB a b c d e ts2 ks2 fs2 tn2 = true ∧ tn2 ≤ tn + 31 ∧ Sep [] w w' [rT ts2.length B0 e0 ts2, rK ks2.length B1 e1 ks2, rF fs2.length B2 e2 fs2] := by
 have hl := poolB_lens hp
 have hT := (poolB_parts2 hp)
 have ht : (appliedM a b c d e ts ks fs tn st wk k x y).tn ≤ tn + 31 := applied_turn (m := tn + 31) wk k x y (by omega) (by omega)
 exact (applied_any a b c d e ts ks fs A0 A1 A2 c0 c1 c2 tn st wk k x y w (by omega) (by omega) (by omega) h).mono fun r w' ⟨B0, B1, B2, d0, d1, d2, hr, hM⟩ => ⟨_, _, _, _, _, _, _, B0, B1, B2, d0, d1, d2, hr, applied_right wk k x y hp, ht, hM⟩
/-- A right pool, made by some calls out of the dice. -/
def GaveUsedT (a b c d e : Int) (n B : Nat) (w : World) (g : Nat) (A : Option Addr) (len cap : Nat) (r : Ending) (w' : World) : Prop :=
 ∃ (ts : List T7) (ks : List Int) (fs : List F2) (tn : Int) (st : Bool) (B0 B1 B2 : Option Addr) (e0 e1 e2 : Nat) (cs : Array Value), r = .returned (.agg #[.slice B0 ts.length e0, .slice B1 ks.length e1, .slice B2 fs.length e2, .int .i64 tn, .bool st]) ∧ poolB a b c d e ts ks fs tn = true ∧ tn ≤ 1 + 31 * (n : Int) ∧ diceC A len cap cs ∧ Sep [g] w w' ([rT ts.length B0 e0 ts, rK ks.length B1 e1 ks, rF fs.length B2 e2 fs] ++ [.blk g 87 cs])
set_option maxRecDepth 100000 in
set_option maxHeartbeats 8000000 in
theorem usedT_any (B : Nat) (w : World) (g : Nat) (A : Option Addr) (len cap : Nat) (a b c : Int) (dd ee : Nat) (n : Nat) (hn : n ≤ 100) (hp : planB a b c dd ee = true) (hd1 : 1 ≤ dd) (he1 : 1 ≤ ee) (d0 : DiceAt B w g A len cap) :
 Calls Tryz.prog 25 #[.pointer (some ⟨g, 0, none⟩), .agg #[.int .i64 a, .int .i64 b, .int .i64 c, .int .i64 dd, .int .i64 ee], .int .i64 n] w (GaveUsedT a b c dd ee n B w g A len cap) := by
 have hg := d0.lt
 have hpl : 1 ≤ a ∧ a ≤ 8 ∧ 1 ≤ c ∧ c ≤ 4 ∧ (dd : Int) ≤ 4 ∧ (ee : Int) ≤ 4 := by
  have h1 := hp
  simp [planB, btw] at h1
  omega
 obtain ⟨pa1, pa2, pc1, pc2, pd2, pe2⟩ := hpl
 have HP := hide hp
 clear hp
 go_enter Tryz.func25, Tryz.ntmps25
 go_wp2_with fail
 obtain ⟨cs0, hc, M⟩ := dice_start d0
 replace M : Sep [g] w ((w.alloc (.cells #[.int .i64 a, .int .i64 b, .int .i64 c, .int .i64 dd, .int .i64 ee] 25)).alloc (.cells #[.slice none 0 0, .slice none 0 0, .slice none 0 0, .int .i64 0, .bool false] 30)) [.blk (w.heap.size + 1) 30 #[.slice none 0 0, .slice none 0 0, .slice none 0 0, .int .i64 0, .bool false], .blk (w.heap.size) 25 #[.int .i64 a, .int .i64 b, .int .i64 c, .int .i64 dd, .int .i64 ee], .blk g 87 cs0] := ((M.alloc 25 #[.int .i64 a, .int .i64 b, .int .i64 c, .int .i64 dd, .int .i64 ee] (w.heap.size) rfl).alloc 30 #[.slice none 0 0, .slice none 0 0, .slice none 0 0, .int .i64 0, .bool false] (w.heap.size + 1) (by simp))
 generalize (w.alloc (.cells #[.int .i64 a, .int .i64 b, .int .i64 c, .int .i64 dd, .int .i64 ee] 25)).alloc (.cells #[.slice none 0 0, .slice none 0 0, .slice none 0 0, .int .i64 0, .bool false] 30) = W1 at M ⊢
 obtain ⟨tR, Ae, Am, Ab, Ay, Ad, Ax, Aa, Aq, Ac, Au⟩ := M.f5 0 rfl
 obtain ⟨tP, Ah, Aw, Ai, Ao, Aj, Al, Ag, Ar, Af, Ap⟩ := M.f5 1 rfl
 go_wp2_with fail
 go_call (newPool_t a b c dd ee _ HP.out) as r W2 ⟨ts, ks, fs, tn, st, B0, B1, B2, e0, e1, e2, rfl, hpo, htn, g1⟩
 clear tR Ae Am Ab Ay Ad Ax Aa Aq Ac Au tP Ah Aw Ai Ao Aj Al Ag Ar Af Ap
 replace M : Sep [g] w W2 [rT ts.length B0 e0 ts, rK ks.length B1 e1 ks, rF fs.length B2 e2 fs, .blk (w.heap.size + 1) 30 #[.slice none 0 0, .slice none 0 0, .slice none 0 0, .int .i64 0, .bool false], .blk (w.heap.size) 25 #[.int .i64 a, .int .i64 b, .int .i64 c, .int .i64 dd, .int .i64 ee], .blk g 87 cs0] := Sep.comp (ps := []) (rs := [.blk (w.heap.size + 1) 30 #[.slice none 0 0, .slice none 0 0, .slice none 0 0, .int .i64 0, .bool false], .blk (w.heap.size) 25 #[.int .i64 a, .int .i64 b, .int .i64 c, .int .i64 dd, .int .i64 ee], .blk g 87 cs0]) M g1
 clear g1
 replace hpo := hide hpo
 replace htn := hide htn
 obtain ⟨tR, Ae, Am, Ab, Ay, Ad, Ax, Aa, Aq, Ac, Au⟩ := M.f5 3 rfl
 obtain ⟨tP, Ah, Aw, Ai, Ao, Aj, Al, Ag, Ar, Af, Ap⟩ := M.f5 4 rfl
 go_wp2_with fail
 clear tR Ae Am Ab Ay Ad Ax Aa Aq Ac Au tP Ah Aw Ai Ao Aj Al Ag Ar Af Ap
 obtain ⟨yb, hyb⟩ : ∃ yb, yb = W2.heap.size := ⟨_, rfl⟩
 rw [← hyb]
 replace M : Sep [g] w (W2.alloc (.cells #[.slice B0 ts.length e0, .slice B1 ks.length e1, .slice B2 fs.length e2, .int .i64 tn, .bool st] 30)) [.blk (yb) 30 #[.slice B0 ts.length e0, .slice B1 ks.length e1, .slice B2 fs.length e2, .int .i64 tn, .bool st], rT ts.length B0 e0 ts, rK ks.length B1 e1 ks, rF fs.length B2 e2 fs, .blk (w.heap.size + 1) 30 #[.slice none 0 0, .slice none 0 0, .slice none 0 0, .int .i64 0, .bool false], .blk (w.heap.size) 25 #[.int .i64 a, .int .i64 b, .int .i64 c, .int .i64 dd, .int .i64 ee], .blk g 87 cs0] := M.alloc 30 #[.slice B0 ts.length e0, .slice B1 ks.length e1, .slice B2 fs.length e2, .int .i64 tn, .bool st] yb hyb.symm
 generalize W2.alloc (.cells #[.slice B0 ts.length e0, .slice B1 ks.length e1, .slice B2 fs.length e2, .int .i64 tn, .bool st] 30) = W3 at M ⊢
 clear hyb
 replace M : Sep [g] w W3 [rT ts.length B0 e0 ts, rK ks.length B1 e1 ks, rF fs.length B2 e2 fs, .blk (yb) 30 #[.slice B0 ts.length e0, .slice B1 ks.length e1, .slice B2 fs.length e2, .int .i64 tn, .bool st], .blk (w.heap.size + 1) 30 #[.slice none 0 0, .slice none 0 0, .slice none 0 0, .int .i64 0, .bool false], .blk (w.heap.size) 25 #[.int .i64 a, .int .i64 b, .int .i64 c, .int .i64 dd, .int .i64 ee], .blk g 87 cs0] := Sep.back (l1 := [rT ts.length B0 e0 ts, rK ks.length B1 e1 ks, rF fs.length B2 e2 fs]) M
 go_loopw [2] (fun i wr => ∃ (m : Nat) (ts : List T7) (ks : List Int) (fs : List F2) (tn : Int) (st : Bool) (B0 B1 B2 : Option Addr) (e0 e1 e2 : Nat) (cs : Array Value), m ≤ 100 ∧ i = .int .i64 m ∧ Hid (poolB a b c dd ee ts ks fs tn = true) ∧ Hid (tn + 31 * (m : Int) ≤ 1 + 31 * (n : Int)) ∧ diceC A len cap cs ∧ Sep [g] w wr [rT ts.length B0 e0 ts, rK ks.length B1 e1 ks, rF fs.length B2 e2 fs, .blk (yb) 30 #[.slice B0 ts.length e0, .slice B1 ks.length e1, .slice B2 fs.length e2, .int .i64 tn, .bool st], .blk (w.heap.size + 1) 30 #[.slice none 0 0, .slice none 0 0, .slice none 0 0, .int .i64 0, .bool false], .blk (w.heap.size) 25 #[.int .i64 a, .int .i64 b, .int .i64 c, .int .i64 dd, .int .i64 ee], .blk g 87 cs]) (fun i _ => (intOf i).toNat)
 case atStart => exact ⟨n, ts, ks, fs, tn, st, B0, B1, B2, e0, e1, e2, _, hn, rfl, hpo, hide (by have := htn.out; omega), hc, M⟩
 case round =>
  clear M hc hpo htn
  obtain ⟨m, ts, ks, fs, tn, st, B0, B1, B2, e0, e1, e2, cs, hm, rfl, hpo, htn, hc, M⟩ := hrel
  by_cases hm0 : 0 < m
  ·have hnpos : (0 : Int) < (m : Int) := by omega
   obtain ⟨tY, At, Ak, As, An, Av⟩ := M.q5 3 rfl
   obtain ⟨tR, Ae, Ab, Ad, Aa, Ac⟩ := M.q5 4 rfl
   obtain ⟨tP, Ah, Ai, Aj, Ag, Af⟩ := M.q5 5 rfl
   go_wp2_with fail
   clear tY At Ak As An Av tR Ae Ab Ad Aa Ac tP Ah Ai Aj Ag Af
   refine wp_region_T (S := (fun w' => w'.cell? ⟨w.heap.size, 0, none⟩ = some (.int .i64 a) ∧ w'.cell? ⟨w.heap.size, 1, none⟩ = some (.int .i64 b) ∧ w'.cell? ⟨w.heap.size, 2, none⟩ = some (.int .i64 c) ∧ w'.cell? ⟨w.heap.size, 3, none⟩ = some (.int .i64 dd) ∧ w'.cell? ⟨w.heap.size, 4, none⟩ = some (.int .i64 ee) ∧ w'.cell? ⟨yb, 0, none⟩ = some (.slice B0 ts.length e0) ∧ w'.cell? ⟨yb, 1, none⟩ = some (.slice B1 ks.length e1) ∧ w'.cell? ⟨yb, 2, none⟩ = some (.slice B2 fs.length e2) ∧ w'.cell? ⟨yb, 3, none⟩ = some (.int .i64 tn) ∧ w'.cell? ⟨yb, 4, none⟩ = some (.bool st))) (ks := [13]) (by kernel_rfl) ⟨M.cell 5 0 rfl, M.cell 5 1 rfl, M.cell 5 2 rfl, M.cell 5 3 rfl, M.cell 5 4 rfl, M.cell 3 0 rfl, M.cell 3 1 rfl, M.cell 3 2 rfl, M.cell 3 3 rfl, M.cell 3 4 rfl⟩ (fun hHeld => ?_)
   replace M := M.drew
   generalize wr.drew = W4 at M hHeld ⊢
   refine tkL 0 ?v0u1 rfl ?hy0u1 hHeld ?_
   case hy0u1 => (intro w hSw; (try dsimp only at hSw); go_split_ands; go_simp; all_goals with_reducible rfl)
   try simp only [Act.put, List.setIfInBounds_toArray, List.set_cons_zero, List.set_cons_succ]
   refine tkL 1 ?v1u2 rfl ?hy1u2 hHeld ?_
   case hy1u2 => (intro w hSw; (try dsimp only at hSw); go_split_ands; go_simp; all_goals with_reducible rfl)
   try simp only [Act.put, List.setIfInBounds_toArray, List.set_cons_zero, List.set_cons_succ]
   refine tkY 2 ?v2u3 rfl ?hy2u3 (fun _ => hHeld) ?_
   case hy2u3 => (intro w; go_simp; all_goals with_reducible rfl)
   try simp only [Act.put, List.setIfInBounds_toArray, List.set_cons_zero, List.set_cons_succ]
   refine tkY 6 ?v6u4 rfl ?hy6u4 (fun _ => hHeld) ?_
   case hy6u4 => (intro w; go_simp; all_goals with_reducible rfl)
   try simp only [Act.put, List.setIfInBounds_toArray, List.set_cons_zero, List.set_cons_succ]
   refine tkY 3 ?v3u5 rfl ?hy3u5 (fun _ => hHeld) ?_
   case hy3u5 => (intro w; go_simp; all_goals with_reducible rfl)
   try simp only [Act.put, List.setIfInBounds_toArray, List.set_cons_zero, List.set_cons_succ]
   refine tkL 4 ?v4u6 rfl ?hy4u6 hHeld ?_
   case hy4u6 => (intro w hSw; (try dsimp only at hSw); go_split_ands; go_simp; all_goals with_reducible rfl)
   try simp only [Act.put, List.setIfInBounds_toArray, List.set_cons_zero, List.set_cons_succ]
   refine tkL 7 ?v7u7 rfl ?hy7u7 hHeld ?_
   case hy7u7 => (intro w hSw; (try dsimp only at hSw); go_split_ands; go_simp; all_goals with_reducible rfl)
   try simp only [Act.put, List.setIfInBounds_toArray, List.set_cons_zero, List.set_cons_succ]
   refine wpAnyT_callL (i := 5) rfl (by kernel_rfl) (fun K hK => ?_)
   go_simp
   refine Calls.mono (by with_reducible exact (below_any B _ g A len cap a (by omega) (by omega) (M.diceAt 6 rfl d0 hc))) ?_
   rintro r W5 ⟨wk, rfl, wk1, wk2, gg, d⟩
   have MM := M.diceMoved 6 rfl gg d
   clear M hc gg d
   obtain ⟨cs1, hc, M⟩ := MM
   simp only [List.set_cons_zero, List.set_cons_succ] at M
   clear hHeld
   go_wp2_with fail
   refine hK.out _ _ ?_ (fun hHeld => ?_)
   ·exact ⟨M.cell 5 0 rfl, M.cell 5 1 rfl, M.cell 5 2 rfl, M.cell 5 3 rfl, M.cell 5 4 rfl, M.cell 3 0 rfl, M.cell 3 1 rfl, M.cell 3 2 rfl, M.cell 3 3 rfl, M.cell 3 4 rfl⟩
   clear hK K
   try simp only [Act.put, List.setIfInBounds_toArray, List.set_cons_zero, List.set_cons_succ]
   refine wpAnyT_callL (i := 8) rfl (by kernel_rfl) (fun K hK => ?_)
   go_simp
   refine Calls.mono (by with_reducible exact (wish_any B _ g A len cap a b c dd ee (by omega) (by omega) (by omega) (by omega) (by omega) (by omega) (M.diceAt 6 rfl d0 hc))) ?_
   rintro r W6 ⟨k, xx, yy, rfl, gg, d⟩
   have MM := M.diceMoved 6 rfl gg d
   clear M hc gg d
   obtain ⟨cs2, hc, M⟩ := MM
   simp only [List.set_cons_zero, List.set_cons_succ] at M
   clear hHeld
   go_wp2_with fail
   refine hK.out _ _ ?_ (fun hHeld => ?_)
   ·exact ⟨M.cell 5 0 rfl, M.cell 5 1 rfl, M.cell 5 2 rfl, M.cell 5 3 rfl, M.cell 5 4 rfl, M.cell 3 0 rfl, M.cell 3 1 rfl, M.cell 3 2 rfl, M.cell 3 3 rfl, M.cell 3 4 rfl⟩
   clear hK K
   try simp only [Act.put, List.setIfInBounds_toArray, List.set_cons_zero, List.set_cons_succ]
   have hAp := applied_t a b c dd ee ts ks fs B0 B1 B2 e0 e1 e2 tn st wk k xx yy _ hpo.out ⟨M.rowS 0 rfl, M.rowS 1 rfl, M.rowS 2 rfl⟩
   refine wpAnyT_callL (i := 9) rfl (by kernel_rfl) (fun K hK => ?_)
   go_simp
   refine Calls.mono (by with_reducible exact hAp) ?_
   clear hAp
   rintro r W7 ⟨ts2, ks2, fs2, tn2, st2, rp, ou, C0, C1, C2, f0, f1, f2, rfl, hpo2, htn2, g1⟩
   replace hpo2 := hide hpo2
   replace htn2 := hide htn2
   replace M : Sep [g] w W7 [rT ts2.length C0 f0 ts2, rK ks2.length C1 f1 ks2, rF fs2.length C2 f2 fs2, rT ts.length B0 e0 ts, rK ks.length B1 e1 ks, rF fs.length B2 e2 fs, .blk (yb) 30 #[.slice B0 ts.length e0, .slice B1 ks.length e1, .slice B2 fs.length e2, .int .i64 tn, .bool st], .blk (w.heap.size + 1) 30 #[.slice none 0 0, .slice none 0 0, .slice none 0 0, .int .i64 0, .bool false], .blk (w.heap.size) 25 #[.int .i64 a, .int .i64 b, .int .i64 c, .int .i64 dd, .int .i64 ee], .blk g 87 cs2] := Sep.comp (ps := []) (rs := [rT ts.length B0 e0 ts, rK ks.length B1 e1 ks, rF fs.length B2 e2 fs, .blk (yb) 30 #[.slice B0 ts.length e0, .slice B1 ks.length e1, .slice B2 fs.length e2, .int .i64 tn, .bool st], .blk (w.heap.size + 1) 30 #[.slice none 0 0, .slice none 0 0, .slice none 0 0, .int .i64 0, .bool false], .blk (w.heap.size) 25 #[.int .i64 a, .int .i64 b, .int .i64 c, .int .i64 dd, .int .i64 ee], .blk g 87 cs2]) M g1
   clear g1 hHeld
   go_wp2_with fail
   refine hK.out _ _ ?_ (fun hHeld => ?_)
   ·exact ⟨M.cell 8 0 rfl, M.cell 8 1 rfl, M.cell 8 2 rfl, M.cell 8 3 rfl, M.cell 8 4 rfl, M.cell 6 0 rfl, M.cell 6 1 rfl, M.cell 6 2 rfl, M.cell 6 3 rfl, M.cell 6 4 rfl⟩
   clear hK K
   try simp only [Act.put, List.setIfInBounds_toArray, List.set_cons_zero, List.set_cons_succ]
   refine tkY 10 ?v10u8 rfl ?hy10u8 (fun _ => hHeld) ?_
   case hy10u8 => (intro w; go_simp; all_goals with_reducible rfl)
   try simp only [Act.put, List.setIfInBounds_toArray, List.set_cons_zero, List.set_cons_succ]
   refine tkY 11 ?v11u9 rfl ?hy11u9 (fun _ => hHeld) ?_
   case hy11u9 => (intro w; go_simp; all_goals with_reducible rfl)
   try simp only [Act.put, List.setIfInBounds_toArray, List.set_cons_zero, List.set_cons_succ]
   refine tkY 12 ?v12u10 rfl ?hy12u10 (fun _ => hHeld) ?_
   case hy12u10 => (intro w; go_simp; all_goals with_reducible rfl)
   try simp only [Act.put, List.setIfInBounds_toArray, List.set_cons_zero, List.set_cons_succ]
   obtain ⟨tY, At, Az, Ak, Bd, As, Bb, An, Bc, Av, Ba⟩ := M.f5 6 rfl
   refine wpAnyT_oneL (i := 13) rfl (by kernel_rfl) (by kernel_rfl) (fun K hK => ?_)
   go_simp
   refine hK.out _ _ ?_
   clear hK K
   try simp only [Act.put, List.setIfInBounds_toArray, List.set_cons_zero, List.set_cons_succ]
   clear tY At Az Ak Bd As Bb An Bc Av Ba
   have N := M.gset5 6 rfl (.slice C0 ts2.length f0) (.slice C1 ks2.length f1) (.slice C2 fs2.length f2) (.int .i64 tn2) (.bool st2)
   clear M
   obtain ⟨W8, eW, M⟩ := N
   rw [eW]
   clear eW
   simp only [List.set_cons_zero, List.set_cons_succ] at M
   refine wpAnyT_done (by kernel_rfl) ?_ _
   replace M := M.sub ((List.Sublist.slnil) |>.cons_cons _ |>.cons_cons _ |>.cons_cons _ |>.cons_cons _ |>.cons _ |>.cons _ |>.cons _ |>.cons_cons _ |>.cons_cons _ |>.cons_cons _)
   go_wp2_with fail
   go_roundw
   ·exact ⟨m - 1, ts2, ks2, fs2, tn2, st2, C0, C1, C2, f0, f1, f2, _, by omega, by go_num, hpo2, hide (by have h1 := htn.out; have h2 := htn2.out; omega), hc, M⟩
   ·simp [intOf]; omega
  ·obtain rfl : m = 0 := by omega
   obtain ⟨tY, At, Az, Ak, Bd, As, Bb, An, Bc, Av, Ba⟩ := M.f5 3 rfl
   obtain ⟨tR, Ae, Am, Ab, Ay, Ad, Ax, Aa, Aq, Ac, Au⟩ := M.f5 4 rfl
   obtain ⟨tP, Ah, Aw, Ai, Ao, Aj, Al, Ag, Ar, Af, Ap⟩ := M.f5 5 rfl
   go_wp2_with fail
   clear tY At Az Ak Bd As Bb An Bc Av Ba tR Ae Am Ab Ay Ad Ax Aa Aq Ac Au tP Ah Aw Ai Ao Aj Al Ag Ar Af Ap
   have N := M.gset5 4 rfl (.slice B0 ts.length e0) (.slice B1 ks.length e1) (.slice B2 fs.length e2) (.int .i64 tn) (.bool st)
   clear M
   obtain ⟨W4, eW, M⟩ := N
   rw [eW]
   clear eW
   simp only [List.set_cons_zero, List.set_cons_succ] at M
   obtain ⟨tR, Ae, Ab, Ad, Aa, Ac⟩ := M.q5 4 rfl
   have M0 := M
   replace M := M.sub ((List.Sublist.slnil) |>.cons_cons _ |>.cons _ |>.cons _ |>.cons _ |>.cons_cons _ |>.cons_cons _ |>.cons_cons _)
   exact bodyPost_ret (v := .agg #[.slice B0 ts.length e0, .slice B1 ks.length e1, .slice B2 fs.length e2, .int .i64 tn, .bool st]) (by simp [results, Tryz.results25, go_sem, Ae, Ab, Ad, Aa, Ac]) rfl ⟨ts, ks, fs, tn, st, B0, B1, B2, e0, e1, e2, cs, rfl, hpo.out, (by have := htn.out; omega), hc, M⟩
theorem Sep.rot {S : List Nat} {w W : World} {r : Res} {rs : List Res} (h : Sep S w W (r :: rs)) : Sep S w W (rs ++ [r]) := h.perm (List.perm_append_comm (l₁ := [r]) (l₂ := rs))
/-- A pool and an answer, part by part. -/
def GaveA (us : List T7) (ks : List Int) (fs : List F2) (tn : Int) (st : Bool) (rp ou : Int) (w : World) (r : Ending) (w' : World) : Prop :=
 ∃ (B0 B1 B2 : Option Addr) (d0 d1 d2 : Nat), r = .returned (.tuple #[.agg #[.slice B0 us.length d0, .slice B1 ks.length d1, .slice B2 fs.length d2, .int .i64 tn, .bool st], .agg #[.int .i64 rp, .int .i64 ou]]) ∧ Sep [] w w' [rT us.length B0 d0 us, rK ks.length B1 d1 ks, rF fs.length B2 d2 fs]
theorem Sep.enter1 {o1 : Array Value} {t1 : TypeId} (w : World) : Sep [] w (w.alloc (.cells o1 t1)) [.blk w.heap.size t1 o1] := (Sep.start w).alloc t1 o1 w.heap.size rfl
theorem sep_zero {w W : World} (hb : Below w.heap.size w W) : Sep [] w W [rT 0 none 0 [], rK 0 none 0 [], rF 0 none 0 []] :=
 sepPool (lo := w.heap.size) (hi := W.heap.size) (ts := []) (ks := []) (fs := []) (Nat.le_refl _) hb ⟨⟨World.ownsRow_nil _ _ _ _, fun k h => by cases h⟩, ⟨World.ownsRow_nil _ _ _ _, fun k h => by cases h⟩, ⟨World.ownsRow_nil _ _ _ _, fun k h => by cases h⟩⟩
end Go.Proofs.YtfjgelegojbmgaaGreat
