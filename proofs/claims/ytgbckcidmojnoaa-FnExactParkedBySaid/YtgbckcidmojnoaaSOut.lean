/- What a call of the model's answers: a pool and a reply, as one thing; the two ends of a call in these words. Lists no longer than a million. -/
import Derived.Test.YtgbckcidmojnoaaSDone
namespace Go.Proofs.Ytgbckcidmojnoaa
open Go.RowKit
set_option linter.unusedVariables false

/-- A pool and an answer. -/
structure OutP where
  ts : List T7
  ks : List Int
  fs : List F2
  tn : Int
  st : Bool
  rp : Int
  ou : Int
/-- The pool as it is beside a reply; the zero one where it is not right. -/
def noO (z : Bool) (ts : List T7) (ks : List Int) (fs : List F2) (tn : Int) (st : Bool) (rp : Int) : OutP := if z then ⟨ts, ks, fs, tn, st, rp, 0⟩ else ⟨[], [], [], 0, false, 8, 0⟩
/-- A new pool and an answer, in memory between lo and the heap's end. -/
def GaveO (lo : Nat) (w : World) (o : OutP) (r : Ending) (w' : World) : Prop :=
  ∃ (B0 B1 B2 : Option Addr) (d0 d1 d2 : Nat), r = .returned (.tuple #[.agg #[.slice B0 o.ts.length d0, .slice B1 o.ks.length d1, .slice B2 o.fs.length d2, .int .i64 o.tn, .bool o.st], .agg #[.int .i64 o.rp, .int .i64 o.ou]]) ∧ OwnPool w' lo w'.heap.size o.ts o.ks o.fs B0 B1 B2 d0 d1 d2 ∧ Below w.heap.size w w'

theorem l6No_any (a b c d e : Int) (ts : List T7) (ks : List Int) (fs : List F2) (A0 A1 A2 : Option Addr) (c0 c1 c2 : Nat) (tn : Int) (st : Bool) (rp : Int) (w : World) (ht : ts.length ≤ 1048576) (hk : ks.length ≤ 1048576) (hf : fs.length ≤ 1048576) (h : InPool w ts ks fs A0 A1 A2) :
    Calls Try.prog 94 #[.agg #[.int .i64 a, .int .i64 b, .int .i64 c, .int .i64 d, .int .i64 e], .agg #[.slice A0 ts.length c0, .slice A1 ks.length c1, .slice A2 fs.length c2, .int .i64 tn, .bool st], .int .i64 rp] w (GaveO w.heap.size w (noO (poolB a b c d e ts ks fs tn) ts ks fs tn st rp)) := by
  by_cases hz : poolB a b c d e ts ks fs tn = true
  · rw [hz]
    exact l6No_yes a b c d e ts ks fs A0 A1 A2 c0 c1 c2 tn st rp w hz ht hk hf h
  · have hz' : poolB a b c d e ts ks fs tn = false := by simpa using hz
    rw [hz']
    exact l6No_no a b c d e ts ks fs A0 A1 A2 c0 c1 c2 tn st rp w hz' ht hk hf h

/-- A changed pool with its answer, where it is right; else the old one, and no turn was left. -/
def doneO (z : Bool) (ts : List T7) (ks : List Int) (fs : List F2) (tn : Int) (st : Bool) (tsx : List T7) (ksx : List Int) (fsx : List F2) (tnx : Int) (stx : Bool) (rp ou : Int) : OutP := if z then ⟨tsx, ksx, fsx, tnx, stx, rp, ou⟩ else ⟨ts, ks, fs, tn, st, 4, 0⟩

theorem l6Done_any (a b c d e : Int) (ts : List T7) (ks : List Int) (fs : List F2) (A0 A1 A2 : Option Addr) (c0 c1 c2 : Nat) (tn : Int) (st : Bool) (tsx : List T7) (ksx : List Int) (fsx : List F2) (A0x A1x A2x : Option Addr) (c0x c1x c2x : Nat) (tnx : Int) (stx : Bool) (rp ou : Int) (lo hi : Nat) (w : World) (ho : poolB a b c d e ts ks fs tn = true) (ht : ts.length ≤ 1048576) (hk : ks.length ≤ 1048576) (hf : fs.length ≤ 1048576) (htx : tsx.length ≤ 1048576) (hkx : ksx.length ≤ 1048576) (hfx : fsx.length ≤ 1048576) (hlo : lo ≤ w.heap.size) (hhi : hi ≤ w.heap.size) (h : InPool w ts ks fs A0 A1 A2) (hx : OwnPool w lo hi tsx ksx fsx A0x A1x A2x c0x c1x c2x) :
    Calls Try.prog 145 #[.agg #[.int .i64 a, .int .i64 b, .int .i64 c, .int .i64 d, .int .i64 e], .agg #[.slice A0 ts.length c0, .slice A1 ks.length c1, .slice A2 fs.length c2, .int .i64 tn, .bool st], .agg #[.slice A0x tsx.length c0x, .slice A1x ksx.length c1x, .slice A2x fsx.length c2x, .int .i64 tnx, .bool stx], .int .i64 rp, .int .i64 ou] w (GaveO lo w (doneO (poolB a b c d e tsx ksx fsx tnx) ts ks fs tn st tsx ksx fsx tnx stx rp ou)) := by
  by_cases hz : poolB a b c d e tsx ksx fsx tnx = true
  · rw [hz]
    exact (l6Done_yes a b c d e ts ks fs A0 A1 A2 c0 c1 c2 tn st tsx ksx fsx A0x A1x A2x c0x c1x c2x tnx stx rp ou w ho hz ht hk hf htx hkx hfx h hx.reads).mono fun r w' hr => ⟨_, _, _, _, _, _, hr.1, (hx.below hr.2).wide (Nat.le_refl _) (Nat.le_trans hhi hr.2.size), hr.2⟩
  · have hz' : poolB a b c d e tsx ksx fsx tnx = false := by simpa using hz
    rw [hz']
    exact (l6Done_full a b c d e ts ks fs A0 A1 A2 c0 c1 c2 tn st tsx ksx fsx A0x A1x A2x c0x c1x c2x tnx stx rp ou w ho hz' ht hk hf htx hkx hfx h hx.reads).mono fun r w' hr => by
      obtain ⟨B0, B1, B2, d0, d1, d2, he, hw, hb⟩ := hr
      exact ⟨B0, B1, B2, d0, d1, d2, he, hw.wide hlo (Nat.le_refl _), hb⟩

/-- What is answered under 'may' is right. -/
theorem doneO_right {a b c d e : Int} {ts : List T7} {ks : List Int} {fs : List F2} {tn : Int} {st : Bool} {tsx : List T7} {ksx : List Int} {fsx : List F2} {tnx : Int} {stx : Bool} {rp ou : Int} (ho : poolB a b c d e ts ks fs tn = true) :
    let o := doneO (poolB a b c d e tsx ksx fsx tnx) ts ks fs tn st tsx ksx fsx tnx stx rp ou
    poolB a b c d e o.ts o.ks o.fs o.tn = true := by
  intro o
  by_cases hz : poolB a b c d e tsx ksx fsx tnx = true
  · have : o = ⟨tsx, ksx, fsx, tnx, stx, rp, ou⟩ := by simp [o, doneO, hz]
    rw [this]; exact hz
  · have : o = ⟨ts, ks, fs, tn, st, 4, 0⟩ := by simp [o, doneO, hz]
    rw [this]; exact ho
theorem noO_right {a b c d e : Int} {ts : List T7} {ks : List Int} {fs : List F2} {tn : Int} {st : Bool} {rp : Int} (ho : poolB a b c d e ts ks fs tn = true) :
    let o := noO (poolB a b c d e ts ks fs tn) ts ks fs tn st rp
    poolB a b c d e o.ts o.ks o.fs o.tn = true := by
  intro o
  have : o = ⟨ts, ks, fs, tn, st, rp, 0⟩ := by simp [o, noO, ho]
  rw [this]; exact ho
end Go.Proofs.Ytgbckcidmojnoaa
