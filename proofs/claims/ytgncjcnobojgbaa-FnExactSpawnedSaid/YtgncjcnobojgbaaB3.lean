/- Contracts of the model whose answers are told by a number. Lists no longer than a million. -/
import Derived.Test.YtgncjcnobojgbaaB1
import Derived.Test.YtgncjcnobojgbaaB2
import Derived.Deep.RegionHeld3
import Derived.Test.YtgncjcnobojgbaaRows
import Derived.WalkKit
import Derived.ProofKit
import Derived.OpenShut
import Derived.Carry
import Derived.Below
import Derived.ChangeOld
import Derived.Lib.SmallJoins
import Derived.Deep.Slices
import Derived.Deep.DeepCutAuto

namespace Go.Proofs.Ytgncjcnobojgbaa
open Go.RowKit
set_option linter.unusedVariables false

def rT (n : Nat) (A : Option Addr) (c : Nat) (ts : List T7) : Res := .row 46 7 (.slice A n c) n (tcells ts)
def rK (n : Nat) (A : Option Addr) (c : Nat) (ks : List Int) : Res := .row 2 1 (.slice A n c) n (icells ks)
def rF (n : Nat) (A : Option Addr) (c : Nat) (fs : List F2) : Res := .row 90 2 (.slice A n c) n (fcells fs)
/-- A new pool and an answer; what the things 'ps' of the caller's have become. -/
def GaveS (ps : List Res) (w : World) (o : OutP) (r : Ending) (w' : World) : Prop :=
  ∃ (B0 B1 B2 : Option Addr) (d0 d1 d2 : Nat), r = .returned (.tuple #[.agg #[.slice B0 o.ts.length d0, .slice B1 o.ks.length d1, .slice B2 o.fs.length d2, .int .i64 o.tn, .bool o.st], .agg #[.int .i64 o.rp, .int .i64 o.ou]]) ∧ Sep (fps ps) w w' [rT o.ts.length B0 d0 o.ts, rK o.ks.length B1 d1 o.ks, rF o.fs.length B2 d2 o.fs]
theorem sepPool {w W : World} {lo hi : Nat} {ts : List T7} {ks : List Int} {fs : List F2} {A0 A1 A2 : Option Addr} {c0 c1 c2 : Nat} (hlo : w.heap.size ≤ lo) (hb : Below w.heap.size w W) (h : OwnPool W lo hi ts ks fs A0 A1 A2 c0 c1 c2) : Sep [] w W [rT ts.length A0 c0 ts, rK ks.length A1 c1 ks, rF fs.length A2 c2 fs] :=
  sepRows3 hlo hb h.1.1 h.2.1.1 h.2.2.1 (by decide) (by decide) (by decide)
theorem l3Copy_s (ts : List T7) (ks : List Int) (fs : List F2) (A0 A1 A2 : Option Addr) (c0 c1 c2 : Nat) (tn : Int) (st : Bool) (w : World) (l0 : ts.length ≤ 1048576) (l1 : ks.length ≤ 1048576) (l2 : fs.length ≤ 1048576) (h : InPool w ts ks fs A0 A1 A2) :
    Calls Try.prog 74 #[.agg #[.slice A0 ts.length c0, .slice A1 ks.length c1, .slice A2 fs.length c2, .int .i64 tn, .bool st]] w fun r w' => ∃ (B0 B1 B2 : Option Addr) (d0 d1 d2 : Nat), r = .returned (.agg #[.slice B0 ts.length d0, .slice B1 ks.length d1, .slice B2 fs.length d2, .int .i64 tn, .bool st]) ∧ Sep [] w w' [rT ts.length B0 d0 ts, rK ks.length B1 d1 ks, rF fs.length B2 d2 fs] :=
  (l3Copy_any ts ks fs A0 A1 A2 c0 c1 c2 tn st w l0 l1 l2 h).mono fun r w' ⟨B0, B1, B2, d0, d1, d2, hr, ho, hb⟩ => ⟨B0, B1, B2, d0, d1, d2, hr, sepPool (Nat.le_refl _) hb ho⟩
theorem l6No_s (a b c d e : Int) (ts : List T7) (ks : List Int) (fs : List F2) (A0 A1 A2 : Option Addr) (c0 c1 c2 : Nat) (tn : Int) (st : Bool) (rp : Int) (w : World) (ht : ts.length ≤ 1048576) (hk : ks.length ≤ 1048576) (hf : fs.length ≤ 1048576) (h : InPool w ts ks fs A0 A1 A2) :
    Calls Try.prog 91 #[.agg #[.int .i64 a, .int .i64 b, .int .i64 c, .int .i64 d, .int .i64 e], .agg #[.slice A0 ts.length c0, .slice A1 ks.length c1, .slice A2 fs.length c2, .int .i64 tn, .bool st], .int .i64 rp] w (GaveS [] w (noO (poolB a b c d e ts ks fs tn) ts ks fs tn st rp)) :=
  (l6No_any a b c d e ts ks fs A0 A1 A2 c0 c1 c2 tn st rp w ht hk hf h).mono fun r w' ⟨B0, B1, B2, d0, d1, d2, hr, ho, hb⟩ => ⟨B0, B1, B2, d0, d1, d2, hr, sepPool (Nat.le_refl _) hb ho⟩
theorem l6Done_s (a b c d e : Int) (ts : List T7) (ks : List Int) (fs : List F2) (A0 A1 A2 : Option Addr) (c0 c1 c2 : Nat) (tn : Int) (st : Bool) (n0 n1 n2 : Nat) (tsx : List T7) (ksx : List Int) (fsx : List F2) (A0x A1x A2x : Option Addr) (c0x c1x c2x : Nat) (tnx : Int) (stx : Bool) (rp ou : Int) {S : List Nat} {w0 : World} {rs : List Res} (w : World) (e0 : tsx.length = n0) (e1 : ksx.length = n1) (e2 : fsx.length = n2) (ho : poolB a b c d e ts ks fs tn = true) (ht : ts.length ≤ 1048576) (hk : ks.length ≤ 1048576) (hf : fs.length ≤ 1048576) (htx : n0 ≤ 1048576) (hkx : n1 ≤ 1048576) (hfx : n2 ≤ 1048576) (h : InPool w ts ks fs A0 A1 A2) (hM : Sep S w0 w ([rT n0 A0x c0x tsx, rK n1 A1x c1x ksx, rF n2 A2x c2x fsx] ++ rs)) :
    Calls Try.prog 93 #[.agg #[.int .i64 a, .int .i64 b, .int .i64 c, .int .i64 d, .int .i64 e], .agg #[.slice A0 ts.length c0, .slice A1 ks.length c1, .slice A2 fs.length c2, .int .i64 tn, .bool st], .agg #[.slice A0x n0 c0x, .slice A1x n1 c1x, .slice A2x n2 c2x, .int .i64 tnx, .bool stx], .int .i64 rp, .int .i64 ou] w (GaveS [rT n0 A0x c0x tsx, rK n1 A1x c1x ksx, rF n2 A2x c2x fsx] w (doneO (poolB a b c d e tsx ksx fsx tnx) ts ks fs tn st tsx ksx fsx tnx stx rp ou)) := by
  subst e0 e1 e2
  have hx : InPool w tsx ksx fsx A0x A1x A2x := ⟨Row.of_own (hM.rowAt 0 rfl), Row.of_own (hM.rowAt 1 rfl), Row.of_own (hM.rowAt 2 rfl)⟩
  by_cases hz : poolB a b c d e tsx ksx fsx tnx = true
  · rw [hz]
    exact (l6Done_yes a b c d e ts ks fs A0 A1 A2 c0 c1 c2 tn st tsx ksx fsx A0x A1x A2x c0x c1x c2x tnx stx rp ou w ho hz ht hk hf htx hkx hfx h hx).mono fun r w' hr => ⟨_, _, _, _, _, _, hr.1, hM.same hr.2⟩
  · have hz' : poolB a b c d e tsx ksx fsx tnx = false := by simpa using hz
    rw [hz']
    exact (l6Done_full a b c d e ts ks fs A0 A1 A2 c0 c1 c2 tn st tsx ksx fsx A0x A1x A2x c0x c1x c2x tnx stx rp ou w ho hz' ht hk hf htx hkx hfx h hx).mono fun r w' hr => by
      obtain ⟨B0, B1, B2, d0, d1, d2, he, hw, hb⟩ := hr
      exact ⟨B0, B1, B2, d0, d1, d2, he, (sepPool (Nat.le_refl _) hb hw).wideS (by simp)⟩
/-- What a callee says of a row of the caller's between two marks, said of the row alone. -/
theorem sep_of_within {P : Program} {f : FuncId} {args : Array Value} {w : World} {R : Ending → Prop} {e : TypeId} {size n : Nat} {v : Value} {xs xs' : List Value} (h : w.ownsRow 0 e size v n xs) (k : ∀ lo hi, hi ≤ w.heap.size → OwnR w lo hi e size v n xs → Calls P f args w fun r w' => R r ∧ OwnR w' lo hi e size v n xs' ∧ Within lo hi w w') :
    Calls P f args w fun r w' => R r ∧ Sep (fps [.row e size v n xs]) w w' [.row e size v n xs'] := by
  rcases hv : v.ownBlock with _ | g
  · refine (k 0 0 (Nat.zero_le _) ⟨h, fun k hk => by rw [hv] at hk; cases hk⟩).mono fun r w' hr => ⟨hr.1, sepOne (fun g hg => .inl hg) ?_ hr.2.1.1⟩
    rw [hv]
    exact ⟨hr.2.2.1, hr.2.2.2.1, hr.2.2.2.2.1, hr.2.2.2.2.2.1, fun i hi _ => hr.2.2.2.2.2.2 i hi (.inr (Nat.zero_le _))⟩
  · have hl := (World.ownsRow.lt h g hv).2
    refine (k g (g + 1) (by omega) ⟨own_raise h (fun x hx => by rw [hv] at hx; injection hx with hx; omega), fun x hx => by rw [hv] at hx; injection hx with hx; omega⟩).mono fun r w' hr => ⟨hr.1, sepOne (fun g hg => .inl hg) ?_ (Own.lower hr.2.1.1 (Nat.zero_le _))⟩
    rw [hv]
    exact ⟨hr.2.2.1, hr.2.2.2.1, hr.2.2.2.2.1, hr.2.2.2.2.2.1, fun i hi hne => hr.2.2.2.2.2.2 i hi (by rcases Nat.lt_or_ge i g with h1 | h1; exact .inl h1; exact .inr (by rcases Nat.lt_or_ge g i with h2 | h2; exact h2; exact absurd (by rw [Nat.le_antisymm h1 h2]) hne))⟩
theorem l5Wake_s (ts : List T7) (A0 A1 A2 : Option Addr) (c0 n1 c1 n2 c2 : Nat) (tn : Int) (st : Bool) (k : Nat) (s l o wt on v0 t : Int) (v : Int) (w : World) (hlen : ts.length ≤ 1048576) (t0 : -1000000000 ≤ tn) (t1 : tn ≤ 1000000000) (ht : ts[k]? = some ⟨s, l, o, wt, on, v0, t⟩) (h : (rT ts.length A0 c0 ts).here w) :
    Calls Try.prog 120 #[.agg #[.slice A0 ts.length c0, .slice A1 n1 c1, .slice A2 n2 c2, .int .i64 tn, .bool st], .int .i64 k, .int .i64 v] w fun r w' => r = .returned (.agg #[.slice A0 ts.length c0, .slice A1 n1 c1, .slice A2 n2 c2, .int .i64 (tn + 1), .bool st]) ∧ Sep (fps [rT ts.length A0 c0 ts]) w w' [rT ts.length A0 c0 (ts.set k (wakeT ⟨s, l, o, wt, on, v0, t⟩ tn v))] :=
  sep_of_within h fun lo hi hh ho => l5Wake_any ts A0 A1 A2 c0 n1 c1 n2 c2 tn st k s l o wt on v0 t v lo hi w hh hlen t0 t1 ht ho
theorem l5Park_s (ts : List T7) (A0 A1 A2 : Option Addr) (c0 n1 c1 n2 c2 : Nat) (tn : Int) (st : Bool) (k : Nat) (s l o wt on v0 t : Int) (pw po : Int) (w : World) (hlen : ts.length ≤ 1048576) (t0 : -1000000000 ≤ tn) (t1 : tn ≤ 1000000000) (ht : ts[k]? = some ⟨s, l, o, wt, on, v0, t⟩) (h : (rT ts.length A0 c0 ts).here w) :
    Calls Try.prog 160 #[.agg #[.slice A0 ts.length c0, .slice A1 n1 c1, .slice A2 n2 c2, .int .i64 tn, .bool st], .int .i64 k, .int .i64 pw, .int .i64 po] w fun r w' => r = .returned (.agg #[.slice A0 ts.length c0, .slice A1 n1 c1, .slice A2 n2 c2, .int .i64 (tn + 1), .bool st]) ∧ Sep (fps [rT ts.length A0 c0 ts]) w w' [rT ts.length A0 c0 (ts.set k (parkT ⟨s, l, o, wt, on, v0, t⟩ tn pw po))] :=
  sep_of_within h fun lo hi hh ho => l5Park_any ts A0 A1 A2 c0 n1 c1 n2 c2 tn st k s l o wt on v0 t pw po lo hi w hh hlen t0 t1 ht ho
theorem l5WakeAll_s (ts : List T7) (n : Nat) (hn : ts.length = n) (A0 A1 A2 : Option Addr) (c0 n1 c1 n2 c2 : Nat) (tn : Int) (st : Bool) (wa oa v : Int) (w : World) (hlen : n ≤ 1048576) (t0 : -500000000 ≤ tn) (t1 : tn ≤ 500000000) (h : (rT n A0 c0 ts).here w) :
    Calls Try.prog 73 #[.agg #[.slice A0 n c0, .slice A1 n1 c1, .slice A2 n2 c2, .int .i64 tn, .bool st], .int .i64 wa, .int .i64 oa, .int .i64 v] w fun r w' => r = .returned (.tuple #[.agg #[.slice A0 n c0, .slice A1 n1 c1, .slice A2 n2 c2, .int .i64 (tn + (waitersM ts wa oa).length), .bool st], .int .i64 ((waitersM ts wa oa).length : Nat)]) ∧ Sep (fps [rT n A0 c0 ts]) w w' [rT n A0 c0 (wakeAllT (waitersM ts wa oa) ts tn v)] := by
  subst hn
  exact sep_of_within h fun lo hi hh ho => l5WakeAll_any ts A0 A1 A2 c0 n1 c1 n2 c2 tn st wa oa v lo hi w hh hlen t0 t1 ho

def T7.put (x : T7) (j : Nat) (u : Int) : T7 := match j with
  | 0 => ⟨u, x.l, x.o, x.wt, x.on, x.v, x.t⟩
  | 1 => ⟨x.s, u, x.o, x.wt, x.on, x.v, x.t⟩
  | 2 => ⟨x.s, x.l, u, x.wt, x.on, x.v, x.t⟩
  | 3 => ⟨x.s, x.l, x.o, u, x.on, x.v, x.t⟩
  | 4 => ⟨x.s, x.l, x.o, x.wt, u, x.v, x.t⟩
  | 5 => ⟨x.s, x.l, x.o, x.wt, x.on, u, x.t⟩
  | _ => ⟨x.s, x.l, x.o, x.wt, x.on, x.v, u⟩
theorem tcells_setput (ts : List T7) (k j : Nat) (hj : j < 7) (x : T7) (u : Int) (hk : ts[k]? = some x) : (tcells ts).set (k * 7 + j) (.int .i64 u) = tcells (ts.set k (x.put j u)) := by
  obtain ⟨s, l, o, wt, on, v, t⟩ := x
  have hj7 : j = 0 ∨ j = 1 ∨ j = 2 ∨ j = 3 ∨ j = 4 ∨ j = 5 ∨ j = 6 := by omega
  rcases hj7 with rfl | rfl | rfl | rfl | rfl | rfl | rfl
  · exact tput_s ts k s l o wt on v t u hk
  · exact tput_l ts k s l o wt on v t u hk
  · exact tput_o ts k s l o wt on v t u hk
  · exact tput_wt ts k s l o wt on v t u hk
  · exact tput_on ts k s l o wt on v t u hk
  · exact tput_v ts k s l o wt on v t u hk
  · exact tput_t ts k s l o wt on v t u hk
theorem Sep.putT {S : List Nat} {w W : World} {rs : List Res} (h : Sep S w W rs) (i : Nat) {g n c : Nat} {ts : List T7} (hi : rs[i]? = some (rT n (some ⟨g, 0, none⟩) c ts)) (k j : Nat) (hj : j < 7) (x : T7) (u : Int) (hk : ts[k]? = some x) : Sep S w (W.setCell ⟨g, k * 7 + j, none⟩ (.int .i64 u)) (rs.set i (rT n (some ⟨g, 0, none⟩) c (ts.set k (x.put j u)))) := by
  have h2 := h.setR i hi (k * 7 + j) (.int .i64 u)
  rw [tcells_setput ts k j hj x u hk] at h2
  exact h2
theorem Sep.putT2 {S : List Nat} {w W : World} {rs : List Res} (h : Sep S w W rs) (i : Nat) {g n c : Nat} {ts : List T7} (hi : rs[i]? = some (rT n (some ⟨g, 0, none⟩) c ts)) (k j1 j2 : Nat) (h1 : j1 < 7) (h2 : j2 < 7) (x : T7) (u1 u2 : Int) (hk : ts[k]? = some x) : Sep S w ((W.setCell ⟨g, k * 7 + j1, none⟩ (.int .i64 u1)).setCell ⟨g, k * 7 + j2, none⟩ (.int .i64 u2)) (rs.set i (rT n (some ⟨g, 0, none⟩) c (ts.set k ((x.put j1 u1).put j2 u2)))) := by
  have hl : i < rs.length := by
    rcases Nat.lt_or_ge i rs.length with h1 | h1
    · exact h1
    · rw [List.getElem?_eq_none h1] at hi; cases hi
  have hkl : k < ts.length := by
    rcases Nat.lt_or_ge k ts.length with h1 | h1
    · exact h1
    · rw [List.getElem?_eq_none h1] at hk; cases hk
  have h3 := (h.putT i hi k j1 h1 x u1 hk).putT i (List.getElem?_set_self hl) k j2 h2 (x.put j1 u1) u2 (List.getElem?_set_self hkl)
  rw [List.set_set, List.set_set] at h3
  exact h3
theorem Sep.putT3 {S : List Nat} {w W : World} {rs : List Res} (h : Sep S w W rs) (i : Nat) {g n c : Nat} {ts : List T7} (hi : rs[i]? = some (rT n (some ⟨g, 0, none⟩) c ts)) (k j1 j2 j3 : Nat) (h1 : j1 < 7) (h2 : j2 < 7) (h3 : j3 < 7) (x : T7) (u1 u2 u3 : Int) (hk : ts[k]? = some x) : Sep S w (((W.setCell ⟨g, k * 7 + j1, none⟩ (.int .i64 u1)).setCell ⟨g, k * 7 + j2, none⟩ (.int .i64 u2)).setCell ⟨g, k * 7 + j3, none⟩ (.int .i64 u3)) (rs.set i (rT n (some ⟨g, 0, none⟩) c (ts.set k (((x.put j1 u1).put j2 u2).put j3 u3)))) := by
  have hl : i < rs.length := by
    rcases Nat.lt_or_ge i rs.length with h1 | h1
    · exact h1
    · rw [List.getElem?_eq_none h1] at hi; cases hi
  have hkl : k < ts.length := by
    rcases Nat.lt_or_ge k ts.length with h1 | h1
    · exact h1
    · rw [List.getElem?_eq_none h1] at hk; cases hk
  have h4 := (h.putT2 i hi k j1 j2 h1 h2 x u1 u2 hk).putT i (List.getElem?_set_self hl) k j3 h3 ((x.put j1 u1).put j2 u2) u3 (List.getElem?_set_self hkl)
  rw [List.set_set, List.set_set] at h4
  exact h4
theorem rT_form {W : World} {n c : Nat} {A : Option Addr} {ts : List T7} (h : (rT n A c ts).here W) (hn : 0 < n) : ∃ g, A = some ⟨g, 0, none⟩ ∧ g < W.heap.size ∧ ∀ j, W.frozen? ⟨g, j, none⟩ = false := by
  obtain ⟨g, cap, hv, _, hgl⟩ := World.ownsRow.form h hn
  injection hv with hA _ hc
  subst hA
  exact ⟨g, rfl, hgl, fun j => Own.fz h j⟩
theorem rK_form {W : World} {n c : Nat} {A : Option Addr} {ks : List Int} (h : (rK n A c ks).here W) (hn : 0 < n) : ∃ g, A = some ⟨g, 0, none⟩ ∧ g < W.heap.size ∧ ∀ j, W.frozen? ⟨g, j, none⟩ = false := by
  obtain ⟨g, cap, hv, _, hgl⟩ := World.ownsRow.form h hn
  injection hv with hA _ hc
  subst hA
  exact ⟨g, rfl, hgl, fun j => Own.fz h j⟩
theorem rF_form {W : World} {n c : Nat} {A : Option Addr} {fs : List F2} (h : (rF n A c fs).here W) (hn : 0 < n) : ∃ g, A = some ⟨g, 0, none⟩ ∧ g < W.heap.size ∧ ∀ j, W.frozen? ⟨g, j, none⟩ = false := by
  obtain ⟨g, cap, hv, _, hgl⟩ := World.ownsRow.form h hn
  injection hv with hA _ hc
  subst hA
  exact ⟨g, rfl, hgl, fun j => Own.fz h j⟩
theorem Sep.putK {S : List Nat} {w W : World} {rs : List Res} (h : Sep S w W rs) (i : Nat) {g n c : Nat} {ks : List Int} (hi : rs[i]? = some (rK n (some ⟨g, 0, none⟩) c ks)) (k : Nat) (u : Int) : Sep S w (W.setCell ⟨g, k, none⟩ (.int .i64 u)) (rs.set i (rK n (some ⟨g, 0, none⟩) c (ks.set k u))) := by
  have h2 := h.setR i hi k (.int .i64 u)
  rw [icells_put] at h2
  exact h2
theorem Sep.putF {S : List Nat} {w W : World} {rs : List Res} (h : Sep S w W rs) (i : Nat) {g n c : Nat} {fs : List F2} (hi : rs[i]? = some (rF n (some ⟨g, 0, none⟩) c fs)) (k : Nat) (b : Bool) (u : Int) : Sep S w ((W.setCell ⟨g, k * 2, none⟩ (.bool b)).setCell ⟨g, k * 2 + 1, none⟩ (.int .i64 u)) (rs.set i (rF n (some ⟨g, 0, none⟩) c (fs.set k ⟨b, u⟩))) := by
  have hl : i < rs.length := by
    rcases Nat.lt_or_ge i rs.length with h1 | h1
    · exact h1
    · rw [List.getElem?_eq_none h1] at hi; cases hi
  have h2 := (h.setR i hi (k * 2) (.bool b)).setR i (List.getElem?_set_self hl) (k * 2 + 1) (.int .i64 u)
  rw [List.set_set] at h2
  have e := fcells_put fs k ⟨b, u⟩
  simp only at e
  rw [e] at h2
  exact h2
end Go.Proofs.Ytgncjcnobojgbaa

namespace Go.Proofs.Ytgncjcnobojgbaa
open Go.RowKit
set_option linter.unusedVariables false

theorem ret_int {a b : Int} (h : a = b) : Ending.returned (.int .i64 a) = .returned (.int .i64 b) := by rw [h]
def markT (k : Int) : Nat → List T7
  | 0 => []
  | n + 1 => ⟨k, k + 1, k + 1 + 1, k + 1 + 1 + 1, k + 1 + 1 + 1 + 1, k + 1 + 1 + 1 + 1 + 1, k + 1 + 1 + 1 + 1 + 1 + 1⟩ :: markT (k + 7) n
def markK (k : Int) : Nat → List Int
  | 0 => []
  | n + 1 => k :: markK (k + 1) n
def markF (k : Int) : Nat → List F2
  | 0 => []
  | n + 1 => ⟨k % 3 == 0, k + 1⟩ :: markF (k + 2) n
theorem markT_length (k : Int) (n : Nat) : (markT k n).length = n := by induction n generalizing k with | zero => rfl | succ n ih => simp [markT, ih]
theorem markK_length (k : Int) (n : Nat) : (markK k n).length = n := by induction n generalizing k with | zero => rfl | succ n ih => simp [markK, ih]
theorem markF_length (k : Int) (n : Nat) : (markF k n).length = n := by induction n generalizing k with | zero => rfl | succ n ih => simp [markF, ih]
theorem markT_at (k : Int) (n j : Nat) (h : j < n) (m : Int) (hm : m = k + 7 * j) : (markT k n)[j]? = some ⟨m, m + 1, m + 1 + 1, m + 1 + 1 + 1, m + 1 + 1 + 1 + 1, m + 1 + 1 + 1 + 1 + 1, m + 1 + 1 + 1 + 1 + 1 + 1⟩ := by
  subst hm
  induction n generalizing k j with
  | zero => omega
  | succ n ih =>
    cases j with
    | zero => simp [markT]
    | succ j => simp only [markT, List.getElem?_cons_succ]; rw [ih (k + 7) j (by omega), show k + 7 + 7 * (j : Int) = k + 7 * ((j + 1 : Nat) : Int) from by omega]
theorem markK_at (k : Int) (n j : Nat) (h : j < n) (m : Int) (hm : m = k + j) : (markK k n)[j]? = some m := by
  subst hm
  induction n generalizing k j with
  | zero => omega
  | succ n ih =>
    cases j with
    | zero => simp [markK]
    | succ j => simp only [markK, List.getElem?_cons_succ]; rw [ih (k + 1) j (by omega), show k + 1 + (j : Int) = k + ((j + 1 : Nat) : Int) from by omega]
theorem markF_at (k : Int) (n j : Nat) (h : j < n) (m : Int) (hm : m = k + 2 * j) : (markF k n)[j]? = some ⟨m % 3 == 0, m + 1⟩ := by
  subst hm
  induction n generalizing k j with
  | zero => omega
  | succ n ih =>
    cases j with
    | zero => simp [markF]
    | succ j => simp only [markF, List.getElem?_cons_succ]; rw [ih (k + 2) j (by omega), show k + 2 + 2 * (j : Int) = k + 2 * ((j + 1 : Nat) : Int) from by omega]
theorem grown_put {a w : World} {g : Nat} (h : a.grownBy w (some g)) (o : Nat) (v : Value) : a.grownBy (w.setCell ⟨g, o, none⟩ v) (some g) := only_setCell h (.inl rfl) v

set_option maxRecDepth 100000 in
set_option maxHeartbeats 1000000 in
theorem markT_any (ts : List T7) (A : Option Addr) (c : Nat) (lo hi : Nat) (q : Int) (w : World) (hlen : ts.length ≤ 1048576) (hq0 : 0 ≤ q) (hq1 : q ≤ 100000000) (h : OwnR w lo hi 46 7 (.slice A ts.length c) ts.length (tcells ts)) :
    Calls Try.prog 83 #[.slice A ts.length c, .int .i64 q] w fun r w' => r = .returned (.int .i64 (q + 7 * ts.length)) ∧ OwnR w' lo hi 46 7 (.slice A ts.length c) ts.length (tcells (markT q ts.length)) ∧ w.grownBy w' (Value.slice A ts.length c).ownBlock := by
  have H := hide h
  have hhi := hide h.2
  clear h
  go_enter Try.func83, Try.ntmps83
  go_wp2
  go_loopw [1, 5] (fun m i wr => ∃ (k : Nat) (us : List T7), k ≤ ts.length ∧ i = .int .i64 k ∧ m = .int .i64 (q + 7 * k) ∧ us.length = ts.length ∧ us.take k = (markT q ts.length).take k ∧ wr.ownsRow lo 46 7 (.slice A ts.length c) ts.length (tcells us) ∧ w.grownBy wr (Value.slice A ts.length c).ownBlock) (fun _ i _ => ts.length - (intOf i).toNat)
  case atStart => exact ⟨0, ts, Nat.zero_le _, rfl, by simp, rfl, rfl, H.out.1, World.grownBy.refl _ _⟩
  case round =>
    obtain ⟨k, us, hk, rfl, rfl, hul, htk, hown, hgr⟩ := hrel
    obtain ⟨m, hm⟩ : ∃ m : Int, m = q + 7 * (k : Int) := ⟨_, rfl⟩
    have Hm := hide hm
    by_cases hlt : k < ts.length
    · obtain ⟨g, cap, hv, _, hgl⟩ := hown.form (by omega)
      injection hv with hA _ hc
      subst hA hc
      have hm0 : 0 ≤ m := by omega
      have hm1 : m ≤ 200000000 := by omega
      rw [← hm]
      clear hm
      obtain ⟨s1, l1, o1, wt1, on1, v1, t1, _, y0, y1, y2, y3, y4, y5, y6⟩ := Own.t7 hown (show k < us.length by omega)
      have f0 : wr.frozen? ⟨g, k * 7, none⟩ = false := Own.fz hown _
      have f1 : wr.frozen? ⟨g, k * 7 + 1, none⟩ = false := Own.fz hown _
      have f2 : wr.frozen? ⟨g, k * 7 + 2, none⟩ = false := Own.fz hown _
      have f3 : wr.frozen? ⟨g, k * 7 + 3, none⟩ = false := Own.fz hown _
      have f4 : wr.frozen? ⟨g, k * 7 + 4, none⟩ = false := Own.fz hown _
      have f5 : wr.frozen? ⟨g, k * 7 + 5, none⟩ = false := Own.fz hown _
      have f6 : wr.frozen? ⟨g, k * 7 + 6, none⟩ = false := Own.fz hown _
      have H1 := hide (⟨hown, hul, htk, hgr⟩ : _ ∧ _ ∧ _ ∧ _)
      clear hown hul htk hgr
      go_wp2
      go_roundw
      case rel =>
        obtain ⟨hown, hul, htk, hgr⟩ := H1.out
        have hgr : w.grownBy wr (some g) := hgr
        have hat := markT_at q ts.length k hlt m Hm.out
        exact ⟨k + 1, _, by omega, by go_num, by have := Hm.out; congr 1; omega, by rw [List.length_set]; exact hul, take_set (by rw [markT_length]; exact hul) htk hat, Own.put7 hown k m (m + 1) (m + 1 + 1) (m + 1 + 1 + 1) (m + 1 + 1 + 1 + 1) (m + 1 + 1 + 1 + 1 + 1) (m + 1 + 1 + 1 + 1 + 1 + 1), grown_put (grown_put (grown_put (grown_put (grown_put (grown_put (grown_put (hgr) _ _) _ _) _ _) _ _) _ _) _ _) _ _⟩
      case measure => simp [intOf]; omega
    · obtain rfl : k = ts.length := by omega
      have hus : us = markT q ts.length := by
        rw [List.take_of_length_le (by omega), List.take_of_length_le (by rw [markT_length]; exact Nat.le_refl _)] at htk
        exact htk
      clear htk hul
      subst hus
      have H1 := hide (⟨hown, hgr⟩ : _ ∧ _)
      clear hown hgr Hm hm
      go_wp2
      go_ret
      exact ⟨rfl, ⟨H1.out.1, hhi.out⟩, H1.out.2⟩

set_option maxRecDepth 100000 in
set_option maxHeartbeats 1000000 in
theorem markK_any (ks : List Int) (A : Option Addr) (c : Nat) (lo hi : Nat) (q : Int) (w : World) (hlen : ks.length ≤ 1048576) (hq0 : 0 ≤ q) (hq1 : q ≤ 100000000) (h : OwnR w lo hi 2 1 (.slice A ks.length c) ks.length (icells ks)) :
    Calls Try.prog 84 #[.slice A ks.length c, .int .i64 q] w fun r w' => r = .returned (.int .i64 (q + ks.length)) ∧ OwnR w' lo hi 2 1 (.slice A ks.length c) ks.length (icells (markK q ks.length)) ∧ w.grownBy w' (Value.slice A ks.length c).ownBlock := by
  have H := hide h
  have hhi := hide h.2
  clear h
  go_enter Try.func84, Try.ntmps84
  go_wp2
  go_loopw [1, 5] (fun m i wr => ∃ (k : Nat) (us : List Int), k ≤ ks.length ∧ i = .int .i64 k ∧ m = .int .i64 (q + k) ∧ us.length = ks.length ∧ us.take k = (markK q ks.length).take k ∧ wr.ownsRow lo 2 1 (.slice A ks.length c) ks.length (icells us) ∧ w.grownBy wr (Value.slice A ks.length c).ownBlock) (fun _ i _ => ks.length - (intOf i).toNat)
  case atStart => exact ⟨0, ks, Nat.zero_le _, rfl, by simp, rfl, rfl, H.out.1, World.grownBy.refl _ _⟩
  case round =>
    obtain ⟨k, us, hk, rfl, rfl, hul, htk, hown, hgr⟩ := hrel
    obtain ⟨m, hm⟩ : ∃ m : Int, m = q + (k : Int) := ⟨_, rfl⟩
    have Hm := hide hm
    by_cases hlt : k < ks.length
    · obtain ⟨g, cap, hv, _, hgl⟩ := hown.form (by omega)
      injection hv with hA _ hc
      subst hA hc
      have hm0 : 0 ≤ m := by omega
      have hm1 : m ≤ 200000000 := by omega
      rw [← hm]
      clear hm
      obtain ⟨v1, _, y0⟩ := Own.i1 hown (show k < us.length by omega)
      have f0 : wr.frozen? ⟨g, k, none⟩ = false := Own.fz hown _
      have H1 := hide (⟨hown, hul, htk, hgr⟩ : _ ∧ _ ∧ _ ∧ _)
      clear hown hul htk hgr
      go_wp2
      go_roundw
      case rel =>
        obtain ⟨hown, hul, htk, hgr⟩ := H1.out
        have hgr : w.grownBy wr (some g) := hgr
        have hat := markK_at q ks.length k hlt m Hm.out
        exact ⟨k + 1, _, by omega, by go_num, by have := Hm.out; congr 1; omega, by rw [List.length_set]; exact hul, take_set (by rw [markK_length]; exact hul) htk hat, Own.put1 hown k m, grown_put (hgr) _ _⟩
      case measure => simp [intOf]; omega
    · obtain rfl : k = ks.length := by omega
      have hus : us = markK q ks.length := by
        rw [List.take_of_length_le (by omega), List.take_of_length_le (by rw [markK_length]; exact Nat.le_refl _)] at htk
        exact htk
      clear htk hul
      subst hus
      have H1 := hide (⟨hown, hgr⟩ : _ ∧ _)
      clear hown hgr Hm hm
      go_wp2
      go_ret
      exact ⟨rfl, ⟨H1.out.1, hhi.out⟩, H1.out.2⟩

set_option maxRecDepth 100000 in
set_option maxHeartbeats 1000000 in
theorem markF_any (fs : List F2) (A : Option Addr) (c : Nat) (lo hi : Nat) (q : Int) (w : World) (hlen : fs.length ≤ 1048576) (hq0 : 0 ≤ q) (hq1 : q ≤ 100000000) (h : OwnR w lo hi 90 2 (.slice A fs.length c) fs.length (fcells fs)) :
    Calls Try.prog 85 #[.slice A fs.length c, .int .i64 q] w fun r w' => r = .returned (.int .i64 (q + 2 * fs.length)) ∧ OwnR w' lo hi 90 2 (.slice A fs.length c) fs.length (fcells (markF q fs.length)) ∧ w.grownBy w' (Value.slice A fs.length c).ownBlock := by
  have H := hide h
  have hhi := hide h.2
  clear h
  go_enter Try.func85, Try.ntmps85
  go_wp2
  go_loopw [1, 5] (fun m i wr => ∃ (k : Nat) (us : List F2), k ≤ fs.length ∧ i = .int .i64 k ∧ m = .int .i64 (q + 2 * k) ∧ us.length = fs.length ∧ us.take k = (markF q fs.length).take k ∧ wr.ownsRow lo 90 2 (.slice A fs.length c) fs.length (fcells us) ∧ w.grownBy wr (Value.slice A fs.length c).ownBlock) (fun _ i _ => fs.length - (intOf i).toNat)
  case atStart => exact ⟨0, fs, Nat.zero_le _, rfl, by simp, rfl, rfl, H.out.1, World.grownBy.refl _ _⟩
  case round =>
    obtain ⟨k, us, hk, rfl, rfl, hul, htk, hown, hgr⟩ := hrel
    obtain ⟨m, hm⟩ : ∃ m : Int, m = q + 2 * (k : Int) := ⟨_, rfl⟩
    have Hm := hide hm
    by_cases hlt : k < fs.length
    · obtain ⟨g, cap, hv, _, hgl⟩ := hown.form (by omega)
      injection hv with hA _ hc
      subst hA hc
      have hm0 : 0 ≤ m := by omega
      have hm1 : m ≤ 200000000 := by omega
      rw [← hm]
      clear hm
      obtain ⟨s1, v1, _, y0, y1⟩ := Own.f2 hown (show k < us.length by omega)
      have f0 : wr.frozen? ⟨g, k * 2, none⟩ = false := Own.fz hown _
      have f1 : wr.frozen? ⟨g, k * 2 + 1, none⟩ = false := Own.fz hown _
      have H1 := hide (⟨hown, hul, htk, hgr⟩ : _ ∧ _ ∧ _ ∧ _)
      clear hown hul htk hgr
      go_wp2
      go_roundw
      case rel =>
        obtain ⟨hown, hul, htk, hgr⟩ := H1.out
        have hgr : w.grownBy wr (some g) := hgr
        have hat := markF_at q fs.length k hlt m Hm.out
        exact ⟨k + 1, _, by omega, by go_num, by have := Hm.out; congr 1; omega, by rw [List.length_set]; exact hul, take_set (by rw [markF_length]; exact hul) htk hat, Own.put2 hown k (m % 3 == 0) (m + 1), grown_put (grown_put (hgr) _ _) _ _⟩
      case measure => simp [intOf]; omega
    · obtain rfl : k = fs.length := by omega
      have hus : us = markF q fs.length := by
        rw [List.take_of_length_le (by omega), List.take_of_length_le (by rw [markF_length]; exact Nat.le_refl _)] at htk
        exact htk
      clear htk hul
      subst hus
      have H1 := hide (⟨hown, hgr⟩ : _ ∧ _)
      clear hown hgr Hm hm
      go_wp2
      go_ret
      exact ⟨rfl, ⟨H1.out.1, hhi.out⟩, H1.out.2⟩

set_option maxRecDepth 100000 in
set_option maxHeartbeats 1000000 in
theorem heldT_any (n : Nat) (A : Option Addr) (c : Nat) (q : Int) (w : World) (hlen : n ≤ 1048576) (hq0 : 0 ≤ q) (hq1 : q ≤ 100000000) (h : Row w A (tcells (markT q n))) :
    Calls Try.prog 86 #[.slice A n c, .int .i64 q] w fun r w' => r = .returned (.int .i64 (q + 7 * n)) ∧ Below w.heap.size w w' := by
  have H := hide h
  clear h
  go_enter Try.func86, Try.ntmps86
  go_wp2
  go_loopw [1, 5] (fun m i wr => ∃ (k : Nat), k ≤ n ∧ i = .int .i64 k ∧ m = .int .i64 (q + 7 * k) ∧ wr = w) (fun _ i _ => n - (intOf i).toNat)
  case atStart => exact ⟨0, Nat.zero_le _, rfl, by simp, rfl⟩
  case round =>
    obtain ⟨k, hk, rfl, rfl, rfl⟩ := hrel
    obtain ⟨m, hm⟩ : ∃ m : Int, m = q + 7 * (k : Int) := ⟨_, rfl⟩
    have Hm := hide hm
    by_cases hlt : k < n
    · obtain ⟨b, off, s, l, o, wt, on, v, t, rfl, _, hx, hbz, z0, z1, z2, z3, z4, z5, z6⟩ := H.out.ts_at (k := k) (by rw [markT_length]; exact hlt)
      rw [markT_at q n k hlt m hm] at hx
      injection hx with hx
      injection hx with u0 u1 u2 u3 u4 u5 u6
      subst u0 u1 u2 u3 u4 u5 u6
      have hm0 : 0 ≤ m := by omega
      have hm1 : m ≤ 200000000 := by omega
      rw [← hm]
      clear hm
      go_wp2
      go_roundw
      case rel => exact ⟨k + 1, by omega, by go_num, by have := Hm.out; congr 1; omega, by trivial⟩
      case measure => simp [intOf]; omega
    · obtain rfl : k = n := by omega
      clear Hm hm
      go_wp2
      go_ret
      exact ⟨rfl, Below.refl _ _⟩

set_option maxRecDepth 100000 in
set_option maxHeartbeats 1000000 in
theorem heldK_any (n : Nat) (A : Option Addr) (c : Nat) (q : Int) (w : World) (hlen : n ≤ 1048576) (hq0 : 0 ≤ q) (hq1 : q ≤ 100000000) (h : Row w A (icells (markK q n))) :
    Calls Try.prog 87 #[.slice A n c, .int .i64 q] w fun r w' => r = .returned (.int .i64 (q + n)) ∧ Below w.heap.size w w' := by
  have H := hide h
  clear h
  go_enter Try.func87, Try.ntmps87
  go_wp2
  go_loopw [1, 5] (fun m i wr => ∃ (k : Nat), k ≤ n ∧ i = .int .i64 k ∧ m = .int .i64 (q + k) ∧ wr = w) (fun _ i _ => n - (intOf i).toNat)
  case atStart => exact ⟨0, Nat.zero_le _, rfl, by simp, rfl⟩
  case round =>
    obtain ⟨k, hk, rfl, rfl, rfl⟩ := hrel
    obtain ⟨m, hm⟩ : ∃ m : Int, m = q + (k : Int) := ⟨_, rfl⟩
    have Hm := hide hm
    by_cases hlt : k < n
    · obtain ⟨b, off, v, rfl, _, hx, hbz, z0⟩ := H.out.ks_at (k := k) (by rw [markK_length]; exact hlt)
      rw [markK_at q n k hlt m hm] at hx
      injection hx with hx
      
      subst hx
      have hm0 : 0 ≤ m := by omega
      have hm1 : m ≤ 200000000 := by omega
      rw [← hm]
      clear hm
      go_wp2
      go_roundw
      case rel => exact ⟨k + 1, by omega, by go_num, by have := Hm.out; congr 1; omega, by trivial⟩
      case measure => simp [intOf]; omega
    · obtain rfl : k = n := by omega
      clear Hm hm
      go_wp2
      go_ret
      exact ⟨rfl, Below.refl _ _⟩

set_option maxRecDepth 100000 in
set_option maxHeartbeats 1000000 in
theorem heldF_any (n : Nat) (A : Option Addr) (c : Nat) (q : Int) (w : World) (hlen : n ≤ 1048576) (hq0 : 0 ≤ q) (hq1 : q ≤ 100000000) (h : Row w A (fcells (markF q n))) :
    Calls Try.prog 88 #[.slice A n c, .int .i64 q] w fun r w' => r = .returned (.int .i64 (q + 2 * n)) ∧ Below w.heap.size w w' := by
  have H := hide h
  clear h
  go_enter Try.func88, Try.ntmps88
  go_wp2
  go_loopw [1, 5] (fun m i wr => ∃ (k : Nat), k ≤ n ∧ i = .int .i64 k ∧ m = .int .i64 (q + 2 * k) ∧ wr = w) (fun _ i _ => n - (intOf i).toNat)
  case atStart => exact ⟨0, Nat.zero_le _, rfl, by simp, rfl⟩
  case round =>
    obtain ⟨k, hk, rfl, rfl, rfl⟩ := hrel
    obtain ⟨m, hm⟩ : ∃ m : Int, m = q + 2 * (k : Int) := ⟨_, rfl⟩
    have Hm := hide hm
    by_cases hlt : k < n
    · obtain ⟨b, off, s, v, rfl, _, hx, hbz, z0, z1⟩ := H.out.fs_at (k := k) (by rw [markF_length]; exact hlt)
      rw [markF_at q n k hlt m hm] at hx
      injection hx with hx
      injection hx with u0 u1
      subst u0 u1
      have hm0 : 0 ≤ m := by omega
      have hm1 : m ≤ 200000000 := by omega
      rw [← hm]
      clear hm
      go_wp2
      go_roundw
      case rel => exact ⟨k + 1, by omega, by go_num, by have := Hm.out; congr 1; omega, by trivial⟩
      case measure => simp [intOf]; omega
    · obtain rfl : k = n := by omega
      clear Hm hm
      go_wp2
      go_ret
      exact ⟨rfl, Below.refl _ _⟩

def markEnd (q : Int) (n0 n1 n2 : Nat) : Int := q + 7 * n0 + n1 + 2 * n2
def MarkPool (w : World) (lo hi : Nat) (n0 n1 n2 : Nat) (A0 A1 A2 : Option Addr) (c0 c1 c2 : Nat) (q : Int) (r : Ending) (w' : World) : Prop :=
  r = .returned (.int .i64 (markEnd q n0 n1 n2)) ∧ OwnPool w' lo hi (markT q n0) (markK (q + 7 * n0) n1) (markF (q + 7 * n0 + n1) n2) A0 A1 A2 c0 c1 c2 ∧ Within lo hi w w'

set_option maxRecDepth 100000 in
set_option maxHeartbeats 1000000 in
theorem markPool_any (ts : List T7) (ks : List Int) (fs : List F2) (A0 A1 A2 : Option Addr) (c0 c1 c2 : Nat) (tn : Int) (st : Bool) (lo hi : Nat) (q : Int) (w : World) (hlo : lo ≤ hi) (hhi : hi ≤ w.heap.size) (hlen : ts.length + ks.length + fs.length ≤ 1048576) (hq0 : 0 ≤ q) (hq1 : q ≤ 10) (h : OwnPool w lo hi ts ks fs A0 A1 A2 c0 c1 c2) :
    Calls Try.prog 36 #[.agg #[.slice A0 ts.length c0, .slice A1 ks.length c1, .slice A2 fs.length c2, .int .i64 tn, .bool st], .int .i64 q] w (MarkPool w lo hi ts.length ks.length fs.length A0 A1 A2 c0 c1 c2 q) := by
  go_enter Try.func36, Try.ntmps36
  go_wp2_with fail
  have kP := Blk.new w 34 #[.slice A0 ts.length c0, .slice A1 ks.length c1, .slice A2 fs.length c2, .int .i64 tn, .bool st]
  have r0 := h.1.alloc (.cells #[.slice A0 ts.length c0, .slice A1 ks.length c1, .slice A2 fs.length c2, .int .i64 tn, .bool st] 34)
  have r1 := h.2.1.alloc (.cells #[.slice A0 ts.length c0, .slice A1 ks.length c1, .slice A2 fs.length c2, .int .i64 tn, .bool st] 34)
  have r2 := h.2.2.alloc (.cells #[.slice A0 ts.length c0, .slice A1 ks.length c1, .slice A2 fs.length c2, .int .i64 tn, .bool st] 34)
  have N : Within lo hi w (w.alloc (.cells #[.slice A0 ts.length c0, .slice A1 ks.length c1, .slice A2 fs.length c2, .int .i64 tn, .bool st] 34)) := Within.of_below (by go_grown)
  have z0 : (w.alloc (.cells #[.slice A0 ts.length c0, .slice A1 ks.length c1, .slice A2 fs.length c2, .int .i64 tn, .bool st] 34)).heap.size = w.heap.size + 1 := by simp
  generalize (w.alloc (.cells #[.slice A0 ts.length c0, .slice A1 ks.length c1, .slice A2 fs.length c2, .int .i64 tn, .bool st] 34)) = W0 at kP r0 r1 r2 N z0 ⊢
  clear h
  go_call (markT_any ts A0 c0 lo hi q W0 (by omega) (by omega) (by omega) r0) as r V0 ⟨rfl, m0, g1⟩
  replace r1 := r1.grown g1 (own_ne_own r1.1 r0.1 (by decide))
  replace r2 := r2.grown g1 (own_ne_own r2.1 r0.1 (by decide))
  replace kP := kP.grown g1 (by intro e; have := r0.2 _ e.symm; omega)
  replace N := N.trans (Within.of_grown g1 (fun g e => ⟨(r0.1.lt g e).1, r0.2 g e⟩))
  clear r0 g1
  obtain ⟨tP, qP0, qP1, qP2, qP3, qP4⟩ := kP.q5
  go_wp2_with fail
  go_call (markK_any ks A1 c1 lo hi (q + 7 * ts.length) V0 (by omega) (by omega) (by omega) r1) as r V1 ⟨rfl, m1, g1⟩
  clear tP qP0 qP1 qP2 qP3 qP4
  replace m0 := m0.grown g1 (own_ne_own m0.1 r1.1 (by decide))
  replace r2 := r2.grown g1 (own_ne_own r2.1 r1.1 (by decide))
  replace kP := kP.grown g1 (by intro e; have := r1.2 _ e.symm; omega)
  replace N := N.trans (Within.of_grown g1 (fun g e => ⟨(r1.1.lt g e).1, r1.2 g e⟩))
  clear r1 g1
  obtain ⟨tP, qP0, qP1, qP2, qP3, qP4⟩ := kP.q5
  go_wp2_with fail
  go_call (markF_any fs A2 c2 lo hi (q + 7 * ts.length + ks.length) V1 (by omega) (by omega) (by omega) r2) as r V2 ⟨rfl, m2, g1⟩
  clear tP qP0 qP1 qP2 qP3 qP4
  replace m0 := m0.grown g1 (own_ne_own m0.1 r2.1 (by decide))
  replace m1 := m1.grown g1 (own_ne_own m1.1 r2.1 (by decide))
  replace kP := kP.grown g1 (by intro e; have := r2.2 _ e.symm; omega)
  replace N := N.trans (Within.of_grown g1 (fun g e => ⟨(r2.1.lt g e).1, r2.2 g e⟩))
  clear r2 g1
  obtain ⟨tP, qP0, qP1, qP2, qP3, qP4⟩ := kP.q5
  go_wp2_with fail
  go_ret
  exact ⟨ret_int (by unfold markEnd; omega), by simp only [OwnPool, markT_length, markK_length, markF_length]; exact ⟨m0, m1, m2⟩, N⟩

set_option maxRecDepth 100000 in
set_option maxHeartbeats 1000000 in
theorem heldPool_any (n0 n1 n2 : Nat) (A0 A1 A2 : Option Addr) (c0 c1 c2 : Nat) (tn : Int) (st : Bool) (q : Int) (w : World) (hlen : n0 + n1 + n2 ≤ 1048576) (hq0 : 0 ≤ q) (hq1 : q ≤ 10) (h : InPool w (markT q n0) (markK (q + 7 * n0) n1) (markF (q + 7 * n0 + n1) n2) A0 A1 A2) :
    Calls Try.prog 37 #[.agg #[.slice A0 n0 c0, .slice A1 n1 c1, .slice A2 n2 c2, .int .i64 tn, .bool st], .int .i64 q] w fun r w' => r = .returned (.int .i64 (markEnd q n0 n1 n2)) ∧ Below w.heap.size w w' := by
  have H := hide h
  clear h
  go_enter Try.func37, Try.ntmps37
  go_wp2_with fail
  have G := Below.refl w.heap.size w
  have kP := Blk.new w 34 #[.slice A0 n0 c0, .slice A1 n1 c1, .slice A2 n2 c2, .int .i64 tn, .bool st]
  have hbs := G.size
  replace G := G.alloc (by omega) (.cells #[.slice A0 n0 c0, .slice A1 n1 c1, .slice A2 n2 c2, .int .i64 tn, .bool st] 34)
  have z1 : (w.alloc (.cells #[.slice A0 n0 c0, .slice A1 n1 c1, .slice A2 n2 c2, .int .i64 tn, .bool st] 34)).heap.size = w.heap.size + 1 := by simp
  clear hbs
  generalize w.alloc (.cells #[.slice A0 n0 c0, .slice A1 n1 c1, .slice A2 n2 c2, .int .i64 tn, .bool st] 34) = W1 at kP G z1 ⊢
  go_call (heldT_any n0 A0 c0 q _ (by omega) hq0 (by omega) (H.out.1.below G)) as r W2 ⟨rfl, g1⟩
  have hbs := G.size
  replace kP := kP.below g1 kP.lt
  replace G := G.trans (g1.mono (by omega))
  have z2 := g1.size
  clear g1 hbs
  have e0 : ¬ (q + 7 * (n0 : Int) < 0) := by omega
  obtain ⟨tP, qP0, qP1, qP2, qP3, qP4⟩ := kP.q5
  go_wp2_with fail
  go_call (heldK_any n1 A1 c1 (q + 7 * n0) _ (by omega) (by omega) (by omega) (H.out.2.1.below G)) as r W3 ⟨rfl, g1⟩
  clear tP qP0 qP1 qP2 qP3 qP4
  have hbs := G.size
  replace kP := kP.below g1 kP.lt
  replace G := G.trans (g1.mono (by omega))
  have z3 := g1.size
  clear g1 hbs
  have e1 : ¬ (q + 7 * (n0 : Int) + n1 < 0) := by omega
  obtain ⟨tP, qP0, qP1, qP2, qP3, qP4⟩ := kP.q5
  go_wp2_with fail
  go_call (heldF_any n2 A2 c2 (q + 7 * n0 + n1) _ (by omega) (by omega) (by omega) (H.out.2.2.below G)) as r W4 ⟨rfl, g1⟩
  clear tP qP0 qP1 qP2 qP3 qP4
  have hbs := G.size
  replace kP := kP.below g1 kP.lt
  replace G := G.trans (g1.mono (by omega))
  have z4 := g1.size
  clear g1 hbs
  have e2 : ¬ (q + 7 * (n0 : Int) + n1 + 2 * n2 < 0) := by omega
  obtain ⟨tP, qP0, qP1, qP2, qP3, qP4⟩ := kP.q5
  go_wp2_with fail
  go_ret
  exact ⟨ret_int (by unfold markEnd; omega), G⟩
end Go.Proofs.Ytgncjcnobojgbaa

namespace Go.Proofs.Ytgncjcnobojgbaa
open Go.RowKit
set_option linter.unusedVariables false

theorem Sep.enter1 {o1 : Array Value} {t1 : TypeId} (w : World) : Sep [] w (w.alloc (.cells o1 t1)) [.blk w.heap.size t1 o1] := (Sep.start w).alloc t1 o1 w.heap.size rfl
theorem szPoolM_pos' {n0 n1 n2 : Nat} (h : n0 + n1 + n2 ≤ 1048576) : szPoolM n0 n1 n2 = 1048576 - ((n0 : Int) + n1 + n2) := by simp [szPoolM, h]
theorem szPoolM_neg' {n0 n1 n2 : Nat} (h : ¬ n0 + n1 + n2 ≤ 1048576) : szPoolM n0 n1 n2 = -1 := by simp [szPoolM, h]
theorem toPool_s (ts : List T7) (ks : List Int) (fs : List F2) (A0 A1 A2 : Option Addr) (c0 c1 c2 : Nat) (tn : Int) (st : Bool) (w : World) (hl : ts.length + ks.length + fs.length ≤ 1048576) (h : InPool w ts ks fs A0 A1 A2) :
    Calls Try.prog 33 #[.agg #[.slice A0 ts.length c0, .slice A1 ks.length c1, .slice A2 fs.length c2, .int .i64 tn, .bool st]] w fun r w' => ∃ (B0 B1 B2 : Option Addr) (d0 d1 d2 : Nat), r = .returned (.agg #[.slice B0 ts.length d0, .slice B1 ks.length d1, .slice B2 fs.length d2, .int .i64 tn, .bool st]) ∧ Sep [] w w' [rT ts.length B0 d0 ts, rK ks.length B1 d1 ks, rF fs.length B2 d2 fs] :=
  (toPool_any ts ks fs A0 A1 A2 c0 c1 c2 tn st w hl h).mono fun r w' ⟨B0, B1, B2, d0, d1, d2, hr, ho, hb⟩ => ⟨B0, B1, B2, d0, d1, d2, hr, sepPool (Nat.le_refl _) hb ho⟩
theorem markT_s (ts : List T7) (A : Option Addr) (c : Nat) (q : Int) (w : World) (hlen : ts.length ≤ 1048576) (hq0 : 0 ≤ q) (hq1 : q ≤ 100000000) (h : (rT ts.length A c ts).here w) :
    Calls Try.prog 83 #[.slice A ts.length c, .int .i64 q] w fun r w' => r = .returned (.int .i64 (q + 7 * ts.length)) ∧ Sep (fps [rT ts.length A c ts]) w w' [rT ts.length A c (markT q ts.length)] :=
  (markT_any ts A c 0 w.heap.size q w hlen hq0 hq1 (OwnR.of h (Nat.le_refl _))).mono fun r w' ⟨hr, ho, hg⟩ => ⟨hr, sepOne (fun _ h => .inl h) hg ho.1⟩
theorem markK_s (ks : List Int) (A : Option Addr) (c : Nat) (q : Int) (w : World) (hlen : ks.length ≤ 1048576) (hq0 : 0 ≤ q) (hq1 : q ≤ 100000000) (h : (rK ks.length A c ks).here w) :
    Calls Try.prog 84 #[.slice A ks.length c, .int .i64 q] w fun r w' => r = .returned (.int .i64 (q + ks.length)) ∧ Sep (fps [rK ks.length A c ks]) w w' [rK ks.length A c (markK q ks.length)] :=
  (markK_any ks A c 0 w.heap.size q w hlen hq0 hq1 (OwnR.of h (Nat.le_refl _))).mono fun r w' ⟨hr, ho, hg⟩ => ⟨hr, sepOne (fun _ h => .inl h) hg ho.1⟩
theorem markF_s (fs : List F2) (A : Option Addr) (c : Nat) (q : Int) (w : World) (hlen : fs.length ≤ 1048576) (hq0 : 0 ≤ q) (hq1 : q ≤ 100000000) (h : (rF fs.length A c fs).here w) :
    Calls Try.prog 85 #[.slice A fs.length c, .int .i64 q] w fun r w' => r = .returned (.int .i64 (q + 2 * fs.length)) ∧ Sep (fps [rF fs.length A c fs]) w w' [rF fs.length A c (markF q fs.length)] :=
  (markF_any fs A c 0 w.heap.size q w hlen hq0 hq1 (OwnR.of h (Nat.le_refl _))).mono fun r w' ⟨hr, ho, hg⟩ => ⟨hr, sepOne (fun _ h => .inl h) hg ho.1⟩
/-- A pool's rows. -/
def poolL (n0 n1 n2 : Nat) (A0 A1 A2 : Option Addr) (c0 c1 c2 : Nat) (ts : List T7) (ks : List Int) (fs : List F2) : List Res := [rT n0 A0 c0 ts, rK n1 A1 c1 ks, rF n2 A2 c2 fs]

set_option maxRecDepth 100000 in
set_option maxHeartbeats 2000000 in
theorem markPool_s (ts : List T7) (ks : List Int) (fs : List F2) (A0 A1 A2 : Option Addr) (c0 c1 c2 : Nat) (tn : Int) (st : Bool) (q : Int) (w : World) (hlen : ts.length + ks.length + fs.length ≤ 1048576) (hq0 : 0 ≤ q) (hq1 : q ≤ 50000000) (h : Sep (fps [rT ts.length A0 c0 ts, rK ks.length A1 c1 ks, rF fs.length A2 c2 fs]) w w [rT ts.length A0 c0 ts, rK ks.length A1 c1 ks, rF fs.length A2 c2 fs]) :
    Calls Try.prog 36 #[.agg #[.slice A0 ts.length c0, .slice A1 ks.length c1, .slice A2 fs.length c2, .int .i64 tn, .bool st], .int .i64 q] w fun r w' => r = .returned (.int .i64 (q + 7 * ts.length + ks.length + 2 * fs.length)) ∧ Sep (fps [rT ts.length A0 c0 ts, rK ks.length A1 c1 ks, rF fs.length A2 c2 fs]) w w' [rT ts.length A0 c0 (markT q ts.length), rK ks.length A1 c1 (markK (q + 7 * ts.length) ks.length), rF fs.length A2 c2 (markF (q + 7 * ts.length + ks.length) fs.length)] := by
  have H := hide h
  clear h
  go_enter Try.func36, Try.ntmps36
  go_wp2_with fail
  have M : Sep (fps [rT ts.length A0 c0 ts, rK ks.length A1 c1 ks, rF fs.length A2 c2 fs]) w (w.alloc (.cells #[.slice A0 ts.length c0, .slice A1 ks.length c1, .slice A2 fs.length c2, .int .i64 tn, .bool st] 34)) [.blk (w.heap.size) 34 #[.slice A0 ts.length c0, .slice A1 ks.length c1, .slice A2 fs.length c2, .int .i64 tn, .bool st], rT ts.length A0 c0 ts, rK ks.length A1 c1 ks, rF fs.length A2 c2 fs] := Sep.allocN H.out 34 #[.slice A0 ts.length c0, .slice A1 ks.length c1, .slice A2 fs.length c2, .int .i64 tn, .bool st]
  generalize w.alloc (.cells #[.slice A0 ts.length c0, .slice A1 ks.length c1, .slice A2 fs.length c2, .int .i64 tn, .bool st] 34) = W0 at M ⊢
  obtain ⟨tP, qP0, qP1, qP2, qP3, qP4⟩ := M.q5 0 rfl
  go_wp2_with fail
  replace M := M.front 1 rfl
  simp only [List.eraseIdx_cons_succ, List.eraseIdx_cons_zero] at M
  go_call (markT_s ts A0 c0 q _ (by omega) hq0 (by omega) (M.rowAt 0 rfl)) as r W1 ⟨rfl, g1⟩
  clear tP qP0 qP1 qP2 qP3 qP4
  replace M := Sep.comp (ps := [rT ts.length A0 c0 ts]) M g1
  simp only [List.cons_append, List.nil_append] at M
  clear g1
  obtain ⟨tP, qP0, qP1, qP2, qP3, qP4⟩ := M.q5 1 rfl
  go_wp2_with fail
  replace M := M.front 2 rfl
  simp only [List.eraseIdx_cons_succ, List.eraseIdx_cons_zero] at M
  go_call (markK_s ks A1 c1 (q + 7 * ts.length) _ (by omega) (by omega) (by omega) (M.rowAt 0 rfl)) as r W2 ⟨rfl, g1⟩
  clear tP qP0 qP1 qP2 qP3 qP4
  replace M := Sep.comp (ps := [rK ks.length A1 c1 ks]) M g1
  simp only [List.cons_append, List.nil_append] at M
  clear g1
  obtain ⟨tP, qP0, qP1, qP2, qP3, qP4⟩ := M.q5 2 rfl
  go_wp2_with fail
  replace M := M.front 3 rfl
  simp only [List.eraseIdx_cons_succ, List.eraseIdx_cons_zero] at M
  go_call (markF_s fs A2 c2 (q + 7 * ts.length + ks.length) _ (by omega) (by omega) (by omega) (M.rowAt 0 rfl)) as r W3 ⟨rfl, g1⟩
  clear tP qP0 qP1 qP2 qP3 qP4
  replace M := Sep.comp (ps := [rF fs.length A2 c2 fs]) M g1
  simp only [List.cons_append, List.nil_append] at M
  clear g1
  obtain ⟨tP, qP0, qP1, qP2, qP3, qP4⟩ := M.q5 3 rfl
  go_wp2_with fail
  go_ret
  refine ⟨rfl, ?_⟩
  replace M := M.front 1 rfl
  replace M := M.front 2 rfl
  exact M.take 3
end Go.Proofs.Ytgncjcnobojgbaa

namespace Go.Proofs.Ytgncjcnobojgbaa
open Go.RowKit
set_option linter.unusedVariables false

theorem keptB {W w' : World} (h : Below W.heap.size W w' ∧ ∀ b o, b < W.heap.size → w'.cell? ⟨b, o, none⟩ = W.cell? ⟨b, o, none⟩) : Below W.heap.size W w' := h.1
theorem inS {W0 w : World} {q : Prop} {ts : List T7} {ks : List Int} {fs : List F2} {A0 A1 A2 : Option Addr} (h : InPool W0 ts ks fs A0 A1 A2) (k : Below W0.heap.size W0 w ∧ q) : InPool w ts ks fs A0 A1 A2 := h.below k.1
theorem keep0' (W0 : World) : Below W0.heap.size W0 W0.drew ∧ ∀ b o, b < W0.heap.size → W0.drew.cell? ⟨b, o, none⟩ = W0.cell? ⟨b, o, none⟩ :=
  ⟨(Below.refl _ _).drew, fun _ _ _ => rfl⟩
theorem keepS' {W0 w w' : World} (h : Below W0.heap.size W0 w ∧ ∀ b o, b < W0.heap.size → w.cell? ⟨b, o, none⟩ = W0.cell? ⟨b, o, none⟩) (k : Below w.heap.size w w') :
    Below W0.heap.size W0 w' ∧ ∀ b o, b < W0.heap.size → w'.cell? ⟨b, o, none⟩ = W0.cell? ⟨b, o, none⟩ :=
  have hb := h.1.trans (k.mono h.1.size)
  ⟨hb, (bcell hb).1⟩
end Go.Proofs.Ytgncjcnobojgbaa

namespace Go.Proofs.Ytgncjcnobojgbaa
open Go.RowKit
set_option linter.unusedVariables false

section
variable {P : Program} {ops : Array Oper} {Q : Exit → Act → World → Prop} {md : Region.Mode} {S : World → Prop} {ks : List Nat}
/-- None of the operations ks has come up. -/
def calmB (ks : List Nat) (listed : Array Bool) : Bool := ks.all fun k => !listed.getD k false
/-- Each of the operations ks waits for number i. -/
def waitsB (md : Region.Mode) (ops : Array Oper) (ks : List Nat) (i : Nat) : Bool :=
  ks.all fun k => !(k == i) && (match ops[k]? with | some o => o.after.any (fun e => Region.binds md e && e.on == i) | none => true)
def wpAnyT (P : Program) (md : Region.Mode) (ops : Array Oper) (Q : Exit → Act → World → Prop) (S : World → Prop) (ks : List Nat) : Nat → Array Bool → Act → World → Prop
  | 0, listed, a, w => Region.ready md ops listed = [] ∧ Q .normal a w
  | fuel + 1, listed, a, w =>
    (Region.ready md ops listed = [] → Q .normal a w) ∧
    ∀ i ∈ Region.ready md ops listed, wpOp P ops Q i (fun a' w' => (calmB ks (listed.setIfInBounds i true) = true → S w') ∧ wpAnyT P md ops Q S ks fuel (listed.setIfInBounds i true) a' w') a w
theorem wpAny_of_T : ∀ (fuel : Nat) (listed : Array Bool) (a : Act) (w : World), wpAnyT P md ops Q S ks fuel listed a w → wpAny P md ops Q fuel listed a w
  | 0, _, _, _, h => h
  | fuel + 1, _, _, _, h => ⟨h.1, fun i hi => wpOp_mono (fun a' w' h' => wpAny_of_T fuel _ a' w' h'.2) (h.2 i hi)⟩
theorem calm_set {ks : List Nat} {listed : Array Bool} {i : Nat} (hc : calmB ks listed = true) (hi : i ∉ ks) : calmB ks (listed.setIfInBounds i true) = true := by
  simp only [calmB, List.all_eq_true, Bool.not_eq_true'] at hc ⊢
  intro k hk
  rw [getD_set_ne false (fun e => hi (by rw [e]; exact hk))]
  exact hc k hk
theorem waits_spec {i k : Nat} (h : waitsB md ops ks i = true) (hk : k ∈ ks) : k ≠ i ∧ ∀ o, ops[k]? = some o → ∃ e ∈ o.after, Region.binds md e = true ∧ e.on = i := by
  have h1 := (List.all_eq_true.1 h) k hk
  simp only [Bool.and_eq_true, Bool.not_eq_true', beq_eq_false_iff_ne] at h1
  refine ⟨h1.1, fun o ho => ?_⟩
  have h2 := h1.2
  rw [ho] at h2
  obtain ⟨e, he, hb⟩ := Array.any_eq_true'.1 h2
  simp only [Bool.and_eq_true, beq_iff_eq] at hb
  exact ⟨e, he, hb.1, hb.2⟩
theorem wpAnyT_first {i : Nat} {oi : Oper} {v : Value} (hi : ops[i]? = some oi) (hsel : ∀ (j : Nat) (o : Oper) cs b, ops[j]? = some o → o.op ≠ .select cs b)
    (hQ : ∀ c a w, Q (.panic c) (a.put oi.dst v) w → Q (.panic c) a w) (hW : waitsB md ops ks i = true) :
    ∀ (fuel : Nat) (listed : Array Bool) (a : Act) (w : World),
      (∀ j oj, ops[j]? = some oj → j ≠ i → listed.getD j true = false → (∀ e ∈ oj.after, Region.binds md e = true → e.on ≠ i) → oi.apart ops oj = true) →
      i ∈ Region.ready md ops listed → YieldsIf P ops S oi v a → calmB ks listed = true → S w →
      wpAnyT P md ops Q S ks fuel (listed.setIfInBounds i true) (a.put oi.dst v) w → wpAnyT P md ops Q S ks (fuel + 1) listed a w := by
  have hik : i ∉ ks := fun h => (waits_spec hW h).1 rfl
  intro fuel
  induction fuel with
  | zero =>
    intro listed a w _ hr hy hc hS H
    refine ⟨fun h => (by rw [h] at hr; cases hr), fun j hj => ?_⟩
    by_cases hji : j = i
    · subst hji; exact hy.wpOp hi hS ⟨fun _ => hS, H⟩
    · have := ready_mono hj hji
      rw [H.1] at this
      cases this
  | succ fuel ih =>
    intro listed a w hfree hr hy hc hS H
    refine ⟨fun h => (by rw [h] at hr; cases hr), fun j hj => ?_⟩
    by_cases hji : j = i
    · subst hji; exact hy.wpOp hi hS ⟨fun _ => hS, H⟩
    · have h1 := H.2 j (ready_mono hj hji)
      obtain ⟨hjun, oj, hoj, hall⟩ := mem_ready.1 hj
      have hnot : ∀ e ∈ oj.after, Region.binds md e = true → e.on ≠ i := fun e he hb heq => by
        have h1 := hall e he hb
        have h0 := (mem_ready.1 hr).1
        rw [heq] at h1
        rcases Nat.lt_or_ge i listed.size with h' | h'
        · simp [h'] at h0 h1; rw [h0] at h1; cases h1
        · simp [Array.getElem?_eq_none h'] at h1
      have hjk : j ∉ ks := fun hjk => by
        obtain ⟨e, he, hb, heq⟩ := (waits_spec hW hjk).2 oj hoj
        exact hnot e he hb heq
      have hcj : calmB ks (listed.setIfInBounds j true) = true := calm_set hc hjk
      have h2 := wpOp_putIf hoj (hfree j oj hoj hji hjun hnot) (fun cs b => hsel i oi cs b hi) (fun cs b => hsel j oj cs b hoj) hQ hy h1
      have hfree' : ∀ k ok, ops[k]? = some ok → k ≠ i → (listed.setIfInBounds j true).getD k true = false →
          (∀ e ∈ ok.after, Region.binds md e = true → e.on ≠ i) → oi.apart ops ok = true := fun k ok hk hki hun hno => by
        refine hfree k ok hk hki ?_ hno
        by_cases hjk : j = k
        · subst hjk; exact hjun
        · rw [getD_set_ne true hjk] at hun; exact hun
      refine wpOp_mono (fun a' w' h3 => ?_) h2
      have hS' : S w' := h3.2.1 (by rw [Array.setIfInBounds_comm _ _ (Ne.symm hji)]; exact calm_set hcj hik)
      refine ⟨fun _ => hS', ih (listed.setIfInBounds j true) a' w' hfree' (ready_mono hr (Ne.symm hji)) h3.1 hcj hS' ?_⟩
      rw [Array.setIfInBounds_comm _ _ hji]
      exact h3.2.2
theorem wpAnyT_take {i : Nat} {oi : Oper} {v : Value} {fuel : Nat} {listed : Array Bool} {a : Act} {w : World} (hi : ops[i]? = some oi)
    (hs : Region.noSelect ops = true) (hf : Region.free md ops listed i = true) (hr : (Region.ready md ops listed).contains i = true) (hw : waitsB md ops ks i = true) (hc : calmB ks listed = true)
    (hQ : ∀ c a w, Q (.panic c) (a.put oi.dst v) w → Q (.panic c) a w) (hy : YieldsIf P ops S oi v a) (hS : S w)
    (h : wpAnyT P md ops Q S ks fuel (listed.setIfInBounds i true) (a.put oi.dst v) w) : wpAnyT P md ops Q S ks (fuel + 1) listed a w :=
  wpAnyT_first hi (Region.noSelect_spec hs) hQ hw fuel listed a w (Region.free_spec hi hf) (by simpa using hr) hy hc hS h
/-- An operation that yields its value in whatever world is taken first (it is none of ks). -/
theorem wpAnyT_firstY {i : Nat} {oi : Oper} {v : Value} (hi : ops[i]? = some oi) (hsel : ∀ (j : Nat) (o : Oper) cs b, ops[j]? = some o → o.op ≠ .select cs b)
    (hQ : ∀ c a w, Q (.panic c) (a.put oi.dst v) w → Q (.panic c) a w) (hik : i ∉ ks) :
    ∀ (fuel : Nat) (listed : Array Bool) (a : Act) (w : World),
      (∀ j oj, ops[j]? = some oj → j ≠ i → listed.getD j true = false → (∀ e ∈ oj.after, Region.binds md e = true → e.on ≠ i) → oi.apart ops oj = true) →
      i ∈ Region.ready md ops listed → Yields P ops oi v a → (calmB ks listed = true → S w) →
      wpAnyT P md ops Q S ks fuel (listed.setIfInBounds i true) (a.put oi.dst v) w → wpAnyT P md ops Q S ks (fuel + 1) listed a w := by
  have hcs : ∀ listed : Array Bool, calmB ks (listed.setIfInBounds i true) = true → calmB ks listed = true := fun listed h => by
    simp only [calmB, List.all_eq_true, Bool.not_eq_true'] at h ⊢
    intro k hk
    have := h k hk
    rwa [getD_set_ne false (fun e => hik (by rw [e]; exact hk))] at this
  intro fuel
  induction fuel with
  | zero =>
    intro listed a w _ hr hy hS H
    refine ⟨fun h => (by rw [h] at hr; cases hr), fun j hj => ?_⟩
    by_cases hji : j = i
    · subst hji; exact hy.wpOp hi ⟨fun h => hS (hcs _ h), H⟩
    · have := ready_mono hj hji
      rw [H.1] at this
      cases this
  | succ fuel ih =>
    intro listed a w hfree hr hy hS H
    refine ⟨fun h => (by rw [h] at hr; cases hr), fun j hj => ?_⟩
    by_cases hji : j = i
    · subst hji; exact hy.wpOp hi ⟨fun h => hS (hcs _ h), H⟩
    · have h1 := H.2 j (ready_mono hj hji)
      obtain ⟨hjun, oj, hoj, hall⟩ := mem_ready.1 hj
      have hnot : ∀ e ∈ oj.after, Region.binds md e = true → e.on ≠ i := fun e he hb heq => by
        have h1 := hall e he hb
        have h0 := (mem_ready.1 hr).1
        rw [heq] at h1
        rcases Nat.lt_or_ge i listed.size with h' | h'
        · simp [h'] at h0 h1; rw [h0] at h1; cases h1
        · simp [Array.getElem?_eq_none h'] at h1
      have h2 := wpOp_put hoj (hfree j oj hoj hji hjun hnot) (fun cs b => hsel i oi cs b hi) (fun cs b => hsel j oj cs b hoj) hQ hy h1
      have hfree' : ∀ k ok, ops[k]? = some ok → k ≠ i → (listed.setIfInBounds j true).getD k true = false →
          (∀ e ∈ ok.after, Region.binds md e = true → e.on ≠ i) → oi.apart ops ok = true := fun k ok hk hki hun hno => by
        refine hfree k ok hk hki ?_ hno
        by_cases hjk : j = k
        · subst hjk; exact hjun
        · rw [getD_set_ne true hjk] at hun; exact hun
      refine wpOp_mono (fun a' w' h3 => ?_) h2
      have hS' : calmB ks (listed.setIfInBounds j true) = true → S w' := fun hc => h3.2.1 (by rw [Array.setIfInBounds_comm _ _ (Ne.symm hji)]; exact calm_set hc hik)
      refine ⟨hS', ih (listed.setIfInBounds j true) a' w' hfree' (ready_mono hr (Ne.symm hji)) h3.1 hS' ?_⟩
      rw [Array.setIfInBounds_comm _ _ hji]
      exact h3.2.2
theorem wpAnyT_takeY {l : List Oper} {i : Nat} {oi : Oper} {v : Value} {fuel : Nat} {listed : Array Bool} {a : Act} {w : World} (hi : l[i]? = some oi)
    (hs : Region.noSelect l.toArray = true) (hf : Region.free md l.toArray listed i = true) (hr : (Region.ready md l.toArray listed).contains i = true) (hk : ks.contains i = false)
    (hQ : ∀ c a w, Q (.panic c) (a.put oi.dst v) w → Q (.panic c) a w) (hw : Region.wanted oi (yielded l.toArray a.tmps) = true) (hy : ∀ w, (execOp a.eval oi).run P w = .ok (.value v) w) (hS : calmB ks listed = true → S w)
    (h : wpAnyT P md l.toArray Q S ks fuel (listed.setIfInBounds i true) (a.put oi.dst v) w) : wpAnyT P md l.toArray Q S ks (fuel + 1) listed a w :=
  wpAnyT_firstY (by simpa using hi) (Region.noSelect_spec hs) hQ (by simpa using hk) fuel listed a w (Region.free_spec (by simpa using hi) hf) (by simpa using hr) (.inl ⟨hw, hy⟩) hS h
theorem wpAnyT_takeZ {l : List Oper} {i : Nat} {oi : Oper} {v : Value} {fuel : Nat} {listed : Array Bool} {a : Act} {w : World} (hi : l[i]? = some oi)
    (hs : Region.noSelect l.toArray = true) (hf : Region.free md l.toArray listed i = true) (hr : (Region.ready md l.toArray listed).contains i = true) (hk : ks.contains i = false)
    (hQ : ∀ c a w, Q (.panic c) (a.put oi.dst v) w → Q (.panic c) a w) (hw : Region.wanted oi (yielded l.toArray a.tmps) = true) (hy : ∀ w, (execOp a.eval oi).run P w = .ok (.value v) w) (hc : calmB ks listed = false)
    (h : wpAnyT P md l.toArray Q S ks fuel (listed.setIfInBounds i true) (a.put oi.dst v) w) : wpAnyT P md l.toArray Q S ks (fuel + 1) listed a w :=
  wpAnyT_takeY hi hs hf hr hk hQ hw hy (fun h0 => by rw [hc] at h0; cases h0) h
theorem wpAnyT_takeL {l : List Oper} {i : Nat} {oi : Oper} {v : Value} {fuel : Nat} {listed : Array Bool} {a : Act} {w : World} (hi : l[i]? = some oi)
    (hs : Region.noSelect l.toArray = true) (hf : Region.free md l.toArray listed i = true) (hr : (Region.ready md l.toArray listed).contains i = true) (hk : waitsB md l.toArray ks i = true) (hc : calmB ks listed = true)
    (hQ : ∀ c a w, Q (.panic c) (a.put oi.dst v) w → Q (.panic c) a w) (hw : Region.wanted oi (yielded l.toArray a.tmps) = true) (hy : ∀ w, S w → (execOp a.eval oi).run P w = .ok (.value v) w) (hS : S w)
    (h : wpAnyT P md l.toArray Q S ks fuel (listed.setIfInBounds i true) (a.put oi.dst v) w) : wpAnyT P md l.toArray Q S ks (fuel + 1) listed a w :=
  wpAnyT_take (by simpa using hi) hs hf hr hk hc hQ (.inl ⟨hw, hy⟩) hS h
theorem wpAnyT_done {listed : Array Bool} {a : Act} {w : World} (hr : Region.ready md ops listed = []) (h : Q .normal a w) :
    ∀ fuel, wpAnyT P md ops Q S ks fuel listed a w
  | 0 => ⟨hr, h⟩
  | _ + 1 => ⟨fun _ => h, by rw [hr]; simp⟩
/-- Just one operation may come up: it is carried out; S is asked behind it unless it is one of ks (or one of these has come up). -/
theorem wpAnyT_one {i : Nat} {o : Oper} {fuel : Nat} {listed : Array Bool} {a : Act} {w : World} (ho : ops[i]? = some o) (hr : Region.ready md ops listed = [i])
    (h : ∀ K' : Act → World → Prop, Shut (∀ a w, (calmB ks (listed.setIfInBounds i true) = true → S w) → ((calmB ks (listed.setIfInBounds i true) = true → S w) → wpAnyT P md ops Q S ks fuel (listed.setIfInBounds i true) a w) → K' a w) → if Region.wanted o (yielded ops a.tmps) = true then Oper.wp P o a w K' Q else K' (a.put o.dst undef) w) :
    wpAnyT P md ops Q S ks (fuel + 1) listed a w :=
  ⟨fun h0 => absurd (hr ▸ h0) (by simp), fun j hj => by
    rw [hr, List.mem_singleton] at hj
    subst hj
    exact wpOp_step ho (fun K' hK => h K' (fun a w hS hW => hK a w ⟨hS, hW hS⟩))⟩
/-- Just one operation may come up, and S is asked behind it no more. -/
theorem wpAnyT_oneL {l : List Oper} {i : Nat} {o : Oper} {fuel : Nat} {listed : Array Bool} {a : Act} {w : World} (ho : l[i]? = some o) (hr : Region.ready md l.toArray listed = [i]) (hc : calmB ks (listed.setIfInBounds i true) = false)
    (h : ∀ K' : Act → World → Prop, Shut (∀ a w, wpAnyT P md l.toArray Q S ks fuel (listed.setIfInBounds i true) a w → K' a w) → if Region.wanted o (yielded l.toArray a.tmps) = true then Oper.wp P o a w K' Q else K' (a.put o.dst undef) w) :
    wpAnyT P md l.toArray Q S ks (fuel + 1) listed a w :=
  wpAnyT_one (by simpa using ho) hr (fun K' hK => h K' (fun a w hW => hK.out a w (fun h0 => by rw [hc] at h0; cases h0) (fun _ => hW)))
/-- Just one operation may come up, and S is asked behind it. -/
theorem wpAnyT_callL {l : List Oper} {i : Nat} {o : Oper} {fuel : Nat} {listed : Array Bool} {a : Act} {w : World} (ho : l[i]? = some o) (hr : Region.ready md l.toArray listed = [i])
    (h : ∀ K' : Act → World → Prop, Shut (∀ a w, S w → (S w → wpAnyT P md l.toArray Q S ks fuel (listed.setIfInBounds i true) a w) → K' a w) → if Region.wanted o (yielded l.toArray a.tmps) = true then Oper.wp P o a w K' Q else K' (a.put o.dst undef) w) :
    wpAnyT P md l.toArray Q S ks (fuel + 1) listed a w :=
  wpAnyT_one (by simpa using ho) hr (fun K' hK => h K' (fun a w hS hW => hK.out a w (fun _ => hS) (fun _ => hW hS)))
/-- One of several that may come up. -/
def AllReadyT (P : Program) (md : Region.Mode) (ops : Array Oper) (Q : Exit → Act → World → Prop) (S : World → Prop) (ks : List Nat) (fuel : Nat) (listed : Array Bool) (a : Act) (w : World) (rs : List Nat) : Prop :=
  ∀ i ∈ rs, wpOp P ops Q i (fun a' w' => (calmB ks (listed.setIfInBounds i true) = true → S w') ∧ wpAnyT P md ops Q S ks fuel (listed.setIfInBounds i true) a' w') a w
theorem AllReadyT.nil {fuel : Nat} {listed : Array Bool} {a : Act} {w : World} : AllReadyT P md ops Q S ks fuel listed a w [] := fun _ h => by cases h
theorem AllReadyT.cons {fuel : Nat} {listed : Array Bool} {a : Act} {w : World} {i : Nat} {o : Oper} {rs : List Nat} (ho : ops[i]? = some o)
    (h : ∀ K' : Act → World → Prop, Shut (∀ a w, (calmB ks (listed.setIfInBounds i true) = true → S w) → ((calmB ks (listed.setIfInBounds i true) = true → S w) → wpAnyT P md ops Q S ks fuel (listed.setIfInBounds i true) a w) → K' a w) → if Region.wanted o (yielded ops a.tmps) = true then Oper.wp P o a w K' Q else K' (a.put o.dst undef) w)
    (hs : AllReadyT P md ops Q S ks fuel listed a w rs) : AllReadyT P md ops Q S ks fuel listed a w (i :: rs) := fun j hj => by
  rcases List.mem_cons.1 hj with rfl | hj
  · exact wpOp_step ho (fun K' hK => h K' (fun a w hS hW => hK a w ⟨hS, hW hS⟩))
  · exact hs j hj
theorem wpAnyT_ready {rs : List Nat} {fuel : Nat} {listed : Array Bool} {a : Act} {w : World} (hr : Region.ready md ops listed = rs) (hne : rs ≠ [])
    (h : AllReadyT P md ops Q S ks fuel listed a w rs) : wpAnyT P md ops Q S ks (fuel + 1) listed a w :=
  ⟨fun h0 => absurd (hr ▸ h0) hne, hr ▸ h⟩
theorem wp_region_T {id : Nat} {a : Act} {w : World} (hm : P.follows .mixedOrders = true) (hS : S w.drew)
    (h : S w.drew → wpAnyT P .any ops Q S ks ops.size (Array.replicate ops.size false) a w.drew) : (Code.region id ops true).wp P Q a w :=
  wp_region_any hm (wpAny_of_T _ _ _ _ (h hS))
end
end Go.Proofs.Ytgncjcnobojgbaa

namespace Go.Proofs.Ytgncjcnobojgbaa
open Go.RowKit
set_option linter.unusedVariables false

theorem AllReadyT.consS {P : Program} {Q : Exit → Act → World → Prop} {md : Region.Mode} {S : World → Prop} {ks : List Nat} {l : List Oper} {fuel : Nat} {listed : Array Bool} {a : Act} {w : World} {i : Nat} {o : Oper} {rs : List Nat} (ho : l[i]? = some o)
    (h : ∀ K' : Act → World → Prop, Shut (∀ a w, S w → (S w → wpAnyT P md l.toArray Q S ks fuel (listed.setIfInBounds i true) a w) → K' a w) → if Region.wanted o (yielded l.toArray a.tmps) = true then Oper.wp P o a w K' Q else K' (a.put o.dst undef) w)
    (hs : AllReadyT P md l.toArray Q S ks fuel listed a w rs) : AllReadyT P md l.toArray Q S ks fuel listed a w (i :: rs) :=
  AllReadyT.cons (by simpa using ho) (fun K' hK => h K' (fun a w hS hW => hK.out a w (fun _ => hS) (fun _ => hW hS))) hs
end Go.Proofs.Ytgncjcnobojgbaa

namespace Go.Proofs.Ytgncjcnobojgbaa
open Go.ChangeShapes Go.WideShapes Go.ChangeAt Go.RowKit Go.Joins Go.Deep

theorem own : ownKnob Try.prog.godebug = none := by kernel_rfl
theorem laidOut : laidOutB Try.prog = true := by kernel_rfl

section
variable {H : Type} {enc : TypeId × Value → H} {P : Program} {w : World} {base : Nat} {spare : Nat → Bool} {held : Bool}
theorem open_agg5 {r : Reach} {b0 : Nat} {t : TypeId} {f0 f1 f2 f3 f4 : Field} {v : Value} {d : DataW H} {p : List MemPlace} (hs : P.underlying t = some (.struct #[f0, f1, f2, f3, f4])) (hone : oneCellFields P #[f0, f1, f2, f3, f4] = true) (hC : P.cellsOf t = 5)
    (hv : Value.okWide P w r b0 t v) (h : DataW.Trod enc P w base spare held t v d p) :
    ∃ (v0 v1 v2 v3 v4 : Value) (y0 y1 y2 y3 y4 : DataW H × List MemPlace) (n : Nat), v = .agg #[v0, v1, v2, v3, v4] ∧ d = .agg [y0.1, y1.1, y2.1, y3.1, y4.1] ∧ p = y0.2 ++ (y1.2 ++ (y2.2 ++ (y3.2 ++ y4.2))) ∧
      DataW.trod enc P w base spare held n f0.type [v0] = some y0 ∧ DataW.trod enc P w base spare held n f1.type [v1] = some y1 ∧ DataW.trod enc P w base spare held n f2.type [v2] = some y2 ∧ DataW.trod enc P w base spare held n f3.type [v3] = some y3 ∧ DataW.trod enc P w base spare held n f4.type [v4] = some y4 := by
  obtain ⟨cs, rfl, hsz⟩ := okWide_struct hs hv
  obtain ⟨l⟩ := cs
  match l, hsz.trans hC with
  | [c0, c1, c2, c3, c4], _ =>
    obtain ⟨fuel, hf⟩ := h
    obtain ⟨xs, n, _, hx, _, hlen, hg⟩ := DataW.trod_struct hs hf
    obtain ⟨o0, k0⟩ := hone_of hone 0 f0 rfl
    obtain ⟨o1, k1⟩ := hone_of hone 1 f1 rfl
    obtain ⟨o2, k2⟩ := hone_of hone 2 f2 rfl
    obtain ⟨o3, k3⟩ := hone_of hone 3 f3 rfl
    obtain ⟨o4, k4⟩ := hone_of hone 4 f4 rfl
    match xs, hlen with
    | [y0, y1, y2, y3, y4], _ =>
      simp only [Prod.mk.injEq] at hx
      exact ⟨c0, c1, c2, c3, c4, y0, y1, y2, y3, y4, n, rfl, by simpa using hx.1, by simpa using hx.2, by simpa [Value.cells, o0, k0] using hg 0 f0 rfl, by simpa [Value.cells, o1, k1] using hg 1 f1 rfl, by simpa [Value.cells, o2, k2] using hg 2 f2 rfl, by simpa [Value.cells, o3, k3] using hg 3 f3 rfl, by simpa [Value.cells, o4, k4] using hg 4 f4 rfl⟩

/-- Five fields that are all int64: the value is written out. -/
theorem ints5 {r : Reach} {b0 : Nat} {t e : TypeId} {f0 f1 f2 f3 f4 : Field} {v : Value} {d : DataW H} {p : List MemPlace} (hs : P.underlying t = some (.struct #[f0, f1, f2, f3, f4])) (hone : oneCellFields P #[f0, f1, f2, f3, f4] = true) (hC : P.cellsOf t = 5)
    (he : P.underlying e = some (.int .i64)) (h0 : f0.type = e) (h1 : f1.type = e) (h2 : f2.type = e) (h3 : f3.type = e) (h4 : f4.type = e)
    (hv : Value.okWide P w r b0 t v) (h : DataW.Trod enc P w base spare held t v d p) :
    ∃ a0 a1 a2 a3 a4 : Int, v = .agg #[.int .i64 a0, .int .i64 a1, .int .i64 a2, .int .i64 a3, .int .i64 a4] ∧ (Lit.int .i64 a0).wf = true ∧ (Lit.int .i64 a1).wf = true ∧ (Lit.int .i64 a2).wf = true ∧ (Lit.int .i64 a3).wf = true ∧ (Lit.int .i64 a4).wf = true := by
  obtain ⟨v0, v1, v2, v3, v4, y0, y1, y2, y3, y4, n, rfl, _, _, g0, g1, g2, g3, g4⟩ := open_agg5 hs hone hC hv h
  rw [h0] at g0; rw [h1] at g1; rw [h2] at g2; rw [h3] at g3; rw [h4] at g4
  obtain ⟨a0, e0, _, w0⟩ := DataW.trod_int he g0
  obtain ⟨a1, e1, _, w1⟩ := DataW.trod_int he g1
  obtain ⟨a2, e2, _, w2⟩ := DataW.trod_int he g2
  obtain ⟨a3, e3, _, w3⟩ := DataW.trod_int he g3
  obtain ⟨a4, e4, _, w4⟩ := DataW.trod_int he g4
  simp only [List.cons.injEq, and_true] at e0 e1 e2 e3 e4
  subst e0 e1 e2 e3 e4
  exact ⟨a0, a1, a2, a3, a4, rfl, w0, w1, w2, w3, w4⟩
end
end Go.Proofs.Ytgncjcnobojgbaa

namespace Go.Proofs.Ytgncjcnobojgbaa
open Go.ChangeShapes Go.WideShapes Go.ChangeAt Go.RowKit Go.Joins Go.Deep

section
variable {H : Type} {enc : TypeId × Value → H} {w : World} {base : Nat} {spare : Nat → Bool} {held : Bool}
set_option maxRecDepth 100000 in
theorem task_cells {cs : List Value} {x : DataW H × List MemPlace} {n : Nat} (h : DataW.trod enc Try.prog w base spare held n 140 cs = some x) (hl : cs.length = 7) : ∃ t : T7, cs = t.cs := by
  obtain ⟨xs, k, _, hx, _, hlen, hg⟩ := DataW.trod_struct Try.underlying140 h
  match cs, hl with
  | [c0, c1, c2, c3, c4, c5, c6], _ =>
    match xs, hlen with
    | [y0, y1, y2, y3, y4, y5, y6], _ =>
      have hi : Try.prog.cellsOf 2 = 1 := by kernel_rfl
      have g0 := hg 0 _ rfl
      have g1 := hg 1 _ rfl
      have g2 := hg 2 _ rfl
      have g3 := hg 3 _ rfl
      have g4 := hg 4 _ rfl
      have g5 := hg 5 _ rfl
      have g6 := hg 6 _ rfl
      simp [hi] at g0 g1 g2 g3 g4 g5 g6
      obtain ⟨a0, e0, _, _⟩ := DataW.trod_int Try.underlying2 g0
      obtain ⟨a1, e1, _, _⟩ := DataW.trod_int Try.underlying2 g1
      obtain ⟨a2, e2, _, _⟩ := DataW.trod_int Try.underlying2 g2
      obtain ⟨a3, e3, _, _⟩ := DataW.trod_int Try.underlying2 g3
      obtain ⟨a4, e4, _, _⟩ := DataW.trod_int Try.underlying2 g4
      obtain ⟨a5, e5, _, _⟩ := DataW.trod_int Try.underlying2 g5
      obtain ⟨a6, e6, _, _⟩ := DataW.trod_int Try.underlying2 g6
      simp only [List.cons.injEq, and_true] at e0 e1 e2 e3 e4 e5 e6
      subst e0 e1 e2 e3 e4 e5 e6
      exact ⟨⟨a0, a1, a2, a3, a4, a5, a6⟩, rfl⟩
set_option maxRecDepth 100000 in
theorem future_cells {cs : List Value} {x : DataW H × List MemPlace} {n : Nat} (h : DataW.trod enc Try.prog w base spare held n 142 cs = some x) (hl : cs.length = 2) : ∃ t : F2, cs = t.cs := by
  obtain ⟨xs, k, _, hx, _, hlen, hg⟩ := DataW.trod_struct Try.underlying142 h
  match cs, hl with
  | [c0, c1], _ =>
    match xs, hlen with
    | [y0, y1], _ =>
      have hi : Try.prog.cellsOf 2 = 1 := by kernel_rfl
      have hb : Try.prog.cellsOf 4 = 1 := by kernel_rfl
      have g0 := hg 0 _ rfl
      have g1 := hg 1 _ rfl
      simp [hi, hb] at g0 g1
      obtain ⟨a0, e0, _⟩ := DataW.trod_bool Try.underlying4 g0
      obtain ⟨a1, e1, _, _⟩ := DataW.trod_int Try.underlying2 g1
      simp only [List.cons.injEq, and_true] at e0 e1
      subst e0 e1
      exact ⟨⟨a0, a1⟩, rfl⟩

/-- A row whose elements' cells are known by their index. -/
theorem row_of {α : Type} [Inhabited α] {size len : Nat} {a : Addr} {cellsOf : α → List Value} {cells : List α → List Value} (f : Nat → α) (hs : 0 < size)
    (hcells : ∀ l j, (cells l)[j]? = (l[j / size]?).bind (fun t => (cellsOf t)[j % size]?)) (hlen : ∀ l, (cells l).length = l.length * size)
    (h : ∀ i, i < len → ∀ j, j < size → w.cell? ((a.add (i * size)).add j) = (cellsOf (f i))[j]?) : Row w (some a) (cells ((List.range len).map f)) := by
  intro hl
  rw [hlen, List.length_map, List.length_range] at hl
  have hl0 : 0 < len := by rcases Nat.eq_zero_or_pos len with h0 | h0 <;> simp_all
  have hcell : ∀ j u, (cells ((List.range len).map f))[j]? = some u → w.cell? (a.add j) = some u := by
    intro j u hu
    rw [hcells] at hu
    have hj : j / size < len := by
      rcases Nat.lt_or_ge (j / size) len with h1 | h1
      · exact h1
      · rw [List.getElem?_eq_none (by simpa using h1)] at hu; cases hu
    rw [List.getElem?_map, List.getElem?_range hj] at hu
    have := h (j / size) hj (j % size) (Nat.mod_lt _ hs)
    rw [add_of_add, show j / size * size + j % size = j from Nat.div_add_mod' j size] at this
    rw [this]; exact hu
  have hpos : 0 < (cells ((List.range len).map f)).length := by rw [hlen, List.length_map, List.length_range]; exact Nat.mul_pos hl0 hs
  have c0 := hcell 0 _ (List.getElem?_eq_getElem hpos)
  obtain ⟨b, off, spot⟩ := a
  have hspot : spot = none := by simpa [Addr.add] using World.cell?_spot c0
  subst hspot
  refine ⟨b, off, rfl, fun j u hu => ?_⟩
  have := hcell j u hu
  rw [show (⟨b, off, none⟩ : Addr).add j = ⟨b, off + j, none⟩ from by unfold Addr.add; split <;> simp_all] at this
  exact this

set_option maxRecDepth 100000 in
theorem open_tasks {cs : List Value} {x : DataW H × List MemPlace} {n : Nat} (h : DataW.trod enc Try.prog w base spare held n 52 cs = some x) : ∃ (ts : List T7) (A : Option Addr) (c : Nat), cs = [.slice A ts.length c] ∧ ts.length ≤ maxLen ∧ Row w A (tcells ts) := by
  rcases open_slice Try.underlying52 h with ⟨rfl, _⟩ | ⟨a, len, cap, m, n', D, Pl, rfl, hb, hl, hm, hmm, _, hel⟩
  · exact ⟨[], none, 0, rfl, by simp, Row.nil⟩
  · have hc : Try.prog.cellsOf 140 = 7 := by kernel_rfl
    rw [hc] at hel
    have hlm : len ≤ m := by rw [hmm]; split <;> omega
    obtain ⟨f, hf⟩ := choose_lt (α := T7) (n := len) (p := fun i t => ∀ j, j < 7 → w.cell? ((a.add (i * 7)).add j) = t.cs[j]?) (fun i hi => by
      obtain ⟨cs', h1, h2⟩ := hel i (by omega)
      obtain ⟨_, hlen, hcell⟩ := World.cells?_some h1
      obtain ⟨t, rfl⟩ := task_cells h2 hlen
      exact ⟨t, hcell⟩)
    refine ⟨(List.range len).map f, some a, cap, by simp, by simp; omega, row_of (size := 7) f (by omega) tcells_at tcells_length hf⟩
set_option maxRecDepth 100000 in
theorem open_futures {cs : List Value} {x : DataW H × List MemPlace} {n : Nat} (h : DataW.trod enc Try.prog w base spare held n 53 cs = some x) : ∃ (fs : List F2) (A : Option Addr) (c : Nat), cs = [.slice A fs.length c] ∧ fs.length ≤ maxLen ∧ Row w A (fcells fs) := by
  rcases open_slice Try.underlying53 h with ⟨rfl, _⟩ | ⟨a, len, cap, m, n', D, Pl, rfl, hb, hl, hm, hmm, _, hel⟩
  · exact ⟨[], none, 0, rfl, by simp, Row.nil⟩
  · have hc : Try.prog.cellsOf 142 = 2 := by kernel_rfl
    rw [hc] at hel
    have hlm : len ≤ m := by rw [hmm]; split <;> omega
    obtain ⟨f, hf⟩ := choose_lt (α := F2) (n := len) (p := fun i t => ∀ j, j < 2 → w.cell? ((a.add (i * 2)).add j) = t.cs[j]?) (fun i hi => by
      obtain ⟨cs', h1, h2⟩ := hel i (by omega)
      obtain ⟨_, hlen, hcell⟩ := World.cells?_some h1
      obtain ⟨t, rfl⟩ := future_cells h2 hlen
      exact ⟨t, hcell⟩)
    refine ⟨(List.range len).map f, some a, cap, by simp, by simp; omega, row_of (size := 2) f (by omega) fcells_at fcells_length hf⟩
set_option maxRecDepth 100000 in
theorem open_tokens {cs : List Value} {x : DataW H × List MemPlace} {n : Nat} (h : DataW.trod enc Try.prog w base spare held n 31 cs = some x) : ∃ (ks : List Int) (A : Option Addr) (c : Nat), cs = [.slice A ks.length c] ∧ ks.length ≤ maxLen ∧ Row w A (icells ks) := by
  rcases open_ints Try.underlying31 Try.underlying2 (by kernel_rfl) h with ⟨rfl, _⟩ | ⟨a, len, cap, zs, rfl, hb, hl, hm, hz, _, hcell, _⟩
  · exact ⟨[], none, 0, rfl, by simp, Row.nil⟩
  · have hlm : len ≤ zs.length := by rw [hz]; split <;> omega
    have hr : Row w (some a) (icells ((List.range len).map fun i => zs.getD i 0)) :=
      row_of (size := 1) (cellsOf := fun z => [Value.int .i64 z]) _ (by omega) (fun l j => by simp [icells, Nat.mod_one, Nat.div_one]; cases l[j]? <;> rfl) (fun l => by simp [icells]) (fun i hi j hj => by
        obtain rfl : j = 0 := by omega
        rw [add_of_add, Nat.mul_one, Nat.add_zero]
        simpa using hcell i (by omega))
    exact ⟨_, some a, cap, by simp, by simp; omega, hr⟩

set_option maxRecDepth 100000 in
/-- A pool that came in. -/
theorem open_pool {r : Reach} {b0 : Nat} {v : Value} {d : DataW H} {p : List MemPlace} (hv : Value.okWide Try.prog w r b0 55 v) (h : DataW.Trod enc Try.prog w base spare held 55 v d p) :
    ∃ (ts : List T7) (ks : List Int) (fs : List F2) (A0 A1 A2 : Option Addr) (c0 c1 c2 : Nat) (tn : Int) (st : Bool), v = .agg #[.slice A0 ts.length c0, .slice A1 ks.length c1, .slice A2 fs.length c2, .int .i64 tn, .bool st] ∧
      InPool w ts ks fs A0 A1 A2 ∧ ts.length ≤ 9223372036854775807 ∧ ks.length ≤ 9223372036854775807 ∧ fs.length ≤ 9223372036854775807 ∧ (Lit.int .i64 tn).wf = true := by
  obtain ⟨v0, v1, v2, v3, v4, y0, y1, y2, y3, y4, n, rfl, _, _, g0, g1, g2, g3, g4⟩ := open_agg5 Try.underlying55 (by kernel_rfl) (by kernel_rfl : Try.prog.cellsOf 55 = 5) hv h
  obtain ⟨ts, A0, c0, e0, l0, r0⟩ := open_tasks g0
  obtain ⟨ks, A1, c1, e1, l1, r1⟩ := open_tokens g1
  obtain ⟨fs, A2, c2, e2, l2, r2⟩ := open_futures g2
  obtain ⟨tn, e3, _, w3⟩ := DataW.trod_int Try.underlying2 g3
  obtain ⟨st, e4, _⟩ := DataW.trod_bool Try.underlying4 g4
  simp only [List.cons.injEq, and_true] at e0 e1 e2 e3 e4
  subst e0 e1 e2 e3 e4
  unfold maxLen at l0 l1 l2
  exact ⟨ts, ks, fs, A0, A1, A2, c0, c1, c2, tn, st, rfl, ⟨r0, r1, r2⟩, by omega, by omega, by omega, w3⟩
end
end Go.Proofs.Ytgncjcnobojgbaa

namespace Go.Proofs.Ytgncjcnobojgbaa
open Go.RowKit
set_option linter.unusedVariables false

theorem ownOf {w : World} {lo g n size : Nat} {e : TypeId} {xs : List Value} (h : Blk w g e xs.toArray) (hl : lo ≤ g) (hm : n ≤ 1048576) (hs : xs.length = n * size) : OwnR w lo w.heap.size e size (.slice (some ⟨g, 0, none⟩) n n) n xs :=
  OwnR.made h hl (by unfold maxLen; omega) (by simpa using hs) (by simp)
/-- What a copy into a row leaves of the cells that it reads. -/
theorem keepC {W0 w w' : World} {gr p q j : Nat} {u v : Value} (hp : p ≠ gr) (hq : q ≠ gr) (h : W0.grownBy w (some gr) ∧ w.cell? ⟨p, j, none⟩ = some u ∧ w.cell? ⟨q, j, none⟩ = some v) (k : w.grownBy w' (some gr)) :
    W0.grownBy w' (some gr) ∧ w'.cell? ⟨p, j, none⟩ = some u ∧ w'.cell? ⟨q, j, none⟩ = some v :=
  ⟨grownBy_trans h.1 k, k.cell h.2.1 (by intro e; injection e with e; exact hp e), k.cell h.2.2 (by intro e; injection e with e; exact hq e)⟩
theorem keepC0 {w : World} {gr p q j : Nat} {u v : Value} (hp : w.cell? ⟨p, j, none⟩ = some u) (hq : w.cell? ⟨q, j, none⟩ = some v) : w.grownBy w.drew (some gr) ∧ w.drew.cell? ⟨p, j, none⟩ = some u ∧ w.drew.cell? ⟨q, j, none⟩ = some v :=
  ⟨only_drew (World.grownBy.refl _ _), hp, hq⟩
theorem sG {W0 w : World} {gr : Nat} {q : Prop} (h : W0.grownBy w (some gr) ∧ q) : W0.grownBy w (some gr) := h.1
theorem szT : (Try.prog.info? 46).map (·.size) = some 7 := by kernel_rfl
theorem szK : (Try.prog.info? 2).map (·.size) = some 1 := by kernel_rfl
theorem szF : (Try.prog.info? 90).map (·.size) = some 2 := by kernel_rfl
theorem lenT (ts : List T7) : (tcells ts).length = ts.length * 7 := tcells_length ts
theorem lenK (ks : List Int) : (icells ks).length = ks.length * 1 := by rw [icells_length]; omega
theorem lenF (fs : List F2) : (fcells fs).length = fs.length * 2 := fcells_length fs
theorem sizT (ts : List T7) : (madeCells #[.int .i64 0, .int .i64 0, .int .i64 0, .int .i64 0, .int .i64 0, .int .i64 0, .int .i64 0] (ts.length * 7)).size = (tcells ts).length := by rw [size_madeCells, tcells_length]
theorem sizK (ks : List Int) : (madeCells #[.int .i64 0] ks.length).size = (icells ks).length := by rw [size_madeCells, icells_length]
theorem sizF (fs : List F2) : (madeCells #[.bool false, .int .i64 0] (fs.length * 2)).size = (fcells fs).length := by rw [size_madeCells, fcells_length]
theorem keepA {W1 w : World} {g : Nat} {u0 u1 u2 u3 u4 : Value} (hg : g < W1.heap.size) (h : Below W1.heap.size W1 w ∧ w.cell? ⟨g, 0, none⟩ = some u0 ∧ w.cell? ⟨g, 1, none⟩ = some u1 ∧ w.cell? ⟨g, 2, none⟩ = some u2 ∧ w.cell? ⟨g, 3, none⟩ = some u3 ∧ w.cell? ⟨g, 4, none⟩ = some u4) (o : Obj) :
    Below W1.heap.size W1 (w.alloc o) ∧ (w.alloc o).cell? ⟨g, 0, none⟩ = some u0 ∧ (w.alloc o).cell? ⟨g, 1, none⟩ = some u1 ∧ (w.alloc o).cell? ⟨g, 2, none⟩ = some u2 ∧ (w.alloc o).cell? ⟨g, 3, none⟩ = some u3 ∧ (w.alloc o).cell? ⟨g, 4, none⟩ = some u4 := by
  have hz := h.1.size
  refine ⟨h.1.alloc hz o, ?_, ?_, ?_, ?_, ?_⟩
  · rw [World.cell?_alloc_lt w o _ (show g < w.heap.size by omega)]; exact h.2.1
  · rw [World.cell?_alloc_lt w o _ (show g < w.heap.size by omega)]; exact h.2.2.1
  · rw [World.cell?_alloc_lt w o _ (show g < w.heap.size by omega)]; exact h.2.2.2.1
  · rw [World.cell?_alloc_lt w o _ (show g < w.heap.size by omega)]; exact h.2.2.2.2.1
  · rw [World.cell?_alloc_lt w o _ (show g < w.heap.size by omega)]; exact h.2.2.2.2.2
theorem keepS0 {W1 : World} {g : Nat} {u0 u1 u2 u3 u4 : Value} (h0 : W1.cell? ⟨g, 0, none⟩ = some u0) (h1 : W1.cell? ⟨g, 1, none⟩ = some u1) (h2 : W1.cell? ⟨g, 2, none⟩ = some u2) (h3 : W1.cell? ⟨g, 3, none⟩ = some u3) (h4 : W1.cell? ⟨g, 4, none⟩ = some u4) :
    Below W1.heap.size W1 W1 ∧ W1.cell? ⟨g, 0, none⟩ = some u0 ∧ W1.cell? ⟨g, 1, none⟩ = some u1 ∧ W1.cell? ⟨g, 2, none⟩ = some u2 ∧ W1.cell? ⟨g, 3, none⟩ = some u3 ∧ W1.cell? ⟨g, 4, none⟩ = some u4 := ⟨Below.refl _ _, h0, h1, h2, h3, h4⟩
theorem keepD {W1 w : World} {g : Nat} {u0 u1 u2 u3 u4 : Value} (h : Below W1.heap.size W1 w ∧ w.cell? ⟨g, 0, none⟩ = some u0 ∧ w.cell? ⟨g, 1, none⟩ = some u1 ∧ w.cell? ⟨g, 2, none⟩ = some u2 ∧ w.cell? ⟨g, 3, none⟩ = some u3 ∧ w.cell? ⟨g, 4, none⟩ = some u4) :
    Below W1.heap.size W1 w.drew ∧ w.drew.cell? ⟨g, 0, none⟩ = some u0 ∧ w.drew.cell? ⟨g, 1, none⟩ = some u1 ∧ w.drew.cell? ⟨g, 2, none⟩ = some u2 ∧ w.drew.cell? ⟨g, 3, none⟩ = some u3 ∧ w.drew.cell? ⟨g, 4, none⟩ = some u4 := ⟨h.1.drew, h.2⟩

set_option maxRecDepth 100000 in
set_option maxHeartbeats 16000000 in
theorem copied_any (ts : List T7) (ks : List Int) (fs : List F2) (A0 A1 A2 : Option Addr) (c0 c1 c2 : Nat) (tn : Int) (st : Bool) (g : Nat) (w : World) (l0 : ts.length ≤ 1048576) (l1 : ks.length ≤ 1048576) (l2 : fs.length ≤ 1048576) (hg : Blk w g 34 #[.slice A0 ts.length c0, .slice A1 ks.length c1, .slice A2 fs.length c2, .int .i64 tn, .bool st]) (h : InPool w ts ks fs A0 A1 A2) :
    Calls Try.prog 49 #[.pointer (some ⟨g, 0, none⟩)] w (MadePool w ts ks fs tn st) := by
  have H := hide h
  clear h
  obtain ⟨i0, hi, hz0, hz1, hz2⟩ := info_parts infoInt
  obtain ⟨i1, gi, gz0, gz1, gz2⟩ := info_parts infoFut
  obtain ⟨i2, ji, jz0, jz1, jz2⟩ := info_parts infoTask
  have m0 := fun w => run_make (P := Try.prog) w 31 2 i0 (.int .i64 0) Try.underlying31 hi hz0 .i64 .i64 ks.length ks.length (by omega) (by omega) (by rw [hz2]; omega) (by omega)
  have m1 := fun w => run_make (P := Try.prog) w 32 90 i1 (.agg #[.bool false, .int .i64 0]) Try.underlying32 gi gz0 .i64 .i64 fs.length fs.length (by omega) (by omega) (by rw [gz2]; omega) (by omega)
  have m2 := fun w => run_make (P := Try.prog) w 30 46 i2 (.agg #[.int .i64 0, .int .i64 0, .int .i64 0, .int .i64 0, .int .i64 0, .int .i64 0, .int .i64 0]) Try.underlying30 ji jz0 .i64 .i64 ts.length ts.length (by omega) (by omega) (by rw [jz2]; omega) (by omega)
  rw [hz1] at m0
  rw [gz1] at m1
  rw [jz1] at m2
  simp only [Int.toNat_natCast] at m0 m1 m2
  clear hi hz0 hz1 hz2 gi gz0 gz1 gz2 ji jz0 jz1 jz2
  go_enter Try.func49, Try.ntmps49
  go_wp2_with fail
  have G := Below.refl w.heap.size w
  have kg := hg
  clear hg
  have kR := Blk.new w 34 #[.slice none 0 0, .slice none 0 0, .slice none 0 0, .int .i64 0, .bool false]
  replace kg := kg.alloc (.cells #[.slice none 0 0, .slice none 0 0, .slice none 0 0, .int .i64 0, .bool false] 34)
  have hbs := G.size
  replace G := G.alloc (by omega) (.cells #[.slice none 0 0, .slice none 0 0, .slice none 0 0, .int .i64 0, .bool false] 34)
  have z1 : (w.alloc (.cells #[.slice none 0 0, .slice none 0 0, .slice none 0 0, .int .i64 0, .bool false] 34)).heap.size = w.heap.size + 1 := by simp
  clear hbs
  generalize w.alloc (.cells #[.slice none 0 0, .slice none 0 0, .slice none 0 0, .int .i64 0, .bool false] 34) = W1 at kg kR G z1 ⊢
  have HB := hide (⟨kg, kR, G, G.size, H.out.below G⟩ : _ ∧ _ ∧ Below w.heap.size w W1 ∧ w.heap.size ≤ W1.heap.size ∧ InPool W1 ts ks fs A0 A1 A2)
  obtain ⟨tg, qg0, qg1, qg2, qg3, qg4⟩ := kg.q5
  obtain ⟨tR, qR0, qR1, qR2, qR3, qR4⟩ := kR.q5
  have HZ := hide z1
  clear kg kR G z1
  have tg1 : g < W1.heap.size + 1 := by omega
  have tg2 : g < W1.heap.size + 1 + 1 := by omega
  have tg3 : g < W1.heap.size + 1 + 1 + 1 := by omega
  have tg4 : g < W1.heap.size + 1 + 1 + 1 + 1 := by omega
  go_cut [3] (fun y wc => ∃ gY gT gK gF : Nat, y = .pointer (some ⟨gY, 0, none⟩) ∧ Blk wc gY 34 #[.slice (some ⟨gT, 0, none⟩) ts.length ts.length, .slice (some ⟨gK, 0, none⟩) ks.length ks.length, .slice (some ⟨gF, 0, none⟩) fs.length fs.length, .int .i64 tn, .bool st] ∧ Blk wc gT 46 (madeCells #[.int .i64 0, .int .i64 0, .int .i64 0, .int .i64 0, .int .i64 0, .int .i64 0, .int .i64 0] (ts.length * 7)) ∧ Blk wc gK 2 (madeCells #[.int .i64 0] ks.length) ∧ Blk wc gF 90 (madeCells #[.bool false, .int .i64 0] (fs.length * 2)) ∧ (W1.heap.size ≤ gY ∧ W1.heap.size ≤ gT ∧ W1.heap.size ≤ gK ∧ W1.heap.size ≤ gF) ∧ Below W1.heap.size W1 wc)
  case first =>
    have hS0 := keepS0 (W1 := W1) (g := g) qg0 qg1 qg2 qg3 qg4
    go_region_held3 (fun w' => Below W1.heap.size W1 w' ∧ w'.cell? ⟨g, 0, none⟩ = some (.slice A0 ts.length c0) ∧ w'.cell? ⟨g, 1, none⟩ = some (.slice A1 ks.length c1) ∧ w'.cell? ⟨g, 2, none⟩ = some (.slice A2 fs.length c2) ∧ w'.cell? ⟨g, 3, none⟩ = some (.int .i64 tn) ∧ w'.cell? ⟨g, 4, none⟩ = some (.bool st)) (with_reducible (first | exact keepD hS0 | exact keepD (keepA tg hS0 _) | exact keepD (keepA tg (keepA tg hS0 _) _) | exact keepD (keepA tg (keepA tg (keepA tg hS0 _) _) _) | exact keepD (keepA tg (keepA tg (keepA tg (keepA tg hS0 _) _) _) _))) (fail)
    all_goals go_wp2_with fail
    all_goals go_meet
    all_goals clear m0 m1 m2 tg1 tg2 tg3 tg4
    all_goals
      apply Exists.intro
      apply Exists.intro
      apply Exists.intro
      apply Exists.intro
      refine ⟨rfl, ?_, ?_, ?_, ?_, ?_, ?_⟩
      · (repeat (with_reducible first | exact Blk.at_ (by simp) | refine Blk.drew ?_ | refine Blk.alloc ?_ _))
      · (repeat (with_reducible first | exact Blk.at_ (by simp) | refine Blk.drew ?_ | refine Blk.alloc ?_ _))
      · (repeat (with_reducible first | exact Blk.at_ (by simp) | refine Blk.drew ?_ | refine Blk.alloc ?_ _))
      · (repeat (with_reducible first | exact Blk.at_ (by simp) | refine Blk.drew ?_ | refine Blk.alloc ?_ _))
      · (refine ⟨?_, ?_, ?_, ?_⟩ <;> omega)
      · go_grown
  case rest =>
    obtain ⟨gY, gT, gK, gF, rfl, kY, kT, kK, kF, hbd, G0⟩ := hcut
    have kg := HB.out.1.below G0 HB.out.1.lt
    have kR := HB.out.2.1.below G0 HB.out.2.1.lt
    have G := HB.out.2.2.1.trans (G0.mono HB.out.2.2.2.1)
    have hin := HB.out.2.2.2.2.below G0
    have hgR : w.heap.size < W1.heap.size := by have := HB.out.2.1.lt; omega
    have hYT := kY.ne_ kT (by decide)
    have hYK := kY.ne_ kK (by decide)
    have hYF := kY.ne_ kF (by decide)
    have hTK := kT.ne_ kK (by decide)
    have hTF := kT.ne_ kF (by decide)
    have hKF := kK.ne_ kF (by decide)
    clear tg1 tg2 tg3 tg4 m0 m1 m2 qg0 qg1 qg2 qg3 qg4 tR qR0 qR1 qR2 qR3 qR4
    have qy : World.cell? wc ⟨gY, 0, none⟩ = some (.slice (some ⟨gT, 0, none⟩) ts.length ts.length) := kY.cell 0
    have qx : World.cell? wc ⟨g, 0, none⟩ = some (.slice A0 ts.length c0) := kg.cell 0
    have ty : gY < (World.heap wc).size := kY.lt
    have tx : g < (World.heap wc).size := kg.lt
    have hgr : gT ≠ gY := by omega
    have hHK := hide (⟨kT, hin⟩ : _ ∧ _)
    go_wp2_with fail
    go_region_held3 (fun w' => World.grownBy wc w' (some gT) ∧ w'.cell? ⟨gY, 0, none⟩ = some (.slice (some ⟨gT, 0, none⟩) ts.length ts.length) ∧ w'.cell? ⟨g, 0, none⟩ = some (.slice A0 ts.length c0)) (with_reducible (first | exact keepC0 qy qx | exact keepC (p := gY) (q := g) (by omega) (by omega) (by assumption) (by assumption))) (first | (refine step_copy_whole rfl (.tmp 32) (.tmp 36) 30 30 rfl 46 7 ts.length gT ts.length A0 c0 Try.underlying30 szT rfl rfl _ 46 (Blk.drew hHK.out.1) (tcells ts) (lenT ts) hHK.out.2.1 (sizT ts) (tcells_one ts) ?_; intro V0 hb4 hg4))
    have hS0 : World.grownBy wc V0 (some gT) := sG (by assumption)
    clear hHK qy qx ty tx kg kR G hin
    replace G0 := below_only G0 hS0 (by omega) G0.size
    replace kY := kY.grown hS0 (by intro e; injection e with e; omega)
    replace kK := kK.grown hS0 (by intro e; injection e with e; omega)
    replace kF := kF.grown hS0 (by intro e; injection e with e; omega)
    replace kT := hb4
    clear hS0 hb4 hg4
    have kg := HB.out.1.below G0 HB.out.1.lt
    have kR := HB.out.2.1.below G0 HB.out.2.1.lt
    have G := HB.out.2.2.1.trans (G0.mono HB.out.2.2.2.1)
    have hin := HB.out.2.2.2.2.below G0
    have qy : World.cell? V0 ⟨gY, 1, none⟩ = some (.slice (some ⟨gK, 0, none⟩) ks.length ks.length) := kY.cell 1
    have qx : World.cell? V0 ⟨g, 1, none⟩ = some (.slice A1 ks.length c1) := kg.cell 1
    have ty : gY < (World.heap V0).size := kY.lt
    have tx : g < (World.heap V0).size := kg.lt
    have hgr : gK ≠ gY := by omega
    have hHK := hide (⟨kK, hin⟩ : _ ∧ _)
    go_wp2_with fail
    go_region_held3 (fun w' => World.grownBy V0 w' (some gK) ∧ w'.cell? ⟨gY, 1, none⟩ = some (.slice (some ⟨gK, 0, none⟩) ks.length ks.length) ∧ w'.cell? ⟨g, 1, none⟩ = some (.slice A1 ks.length c1)) (with_reducible (first | exact keepC0 qy qx | exact keepC (p := gY) (q := g) (by omega) (by omega) (by assumption) (by assumption))) (first | (refine step_copy_whole rfl (.tmp 39) (.tmp 43) 31 31 rfl 2 1 ks.length gK ks.length A1 c1 Try.underlying31 szK rfl rfl _ 2 (Blk.drew hHK.out.1) (icells ks) (lenK ks) hHK.out.2.2.1 (sizK ks) (icells_one ks) ?_; intro V1 hb4 hg4))
    have hS1 : World.grownBy V0 V1 (some gK) := sG (by assumption)
    clear hHK qy qx ty tx kg kR G hin
    replace G0 := below_only G0 hS1 (by omega) G0.size
    replace kY := kY.grown hS1 (by intro e; injection e with e; omega)
    replace kT := kT.grown hS1 (by intro e; injection e with e; omega)
    replace kF := kF.grown hS1 (by intro e; injection e with e; omega)
    replace kK := hb4
    clear hS1 hb4 hg4
    have kg := HB.out.1.below G0 HB.out.1.lt
    have kR := HB.out.2.1.below G0 HB.out.2.1.lt
    have G := HB.out.2.2.1.trans (G0.mono HB.out.2.2.2.1)
    have hin := HB.out.2.2.2.2.below G0
    have qy : World.cell? V1 ⟨gY, 2, none⟩ = some (.slice (some ⟨gF, 0, none⟩) fs.length fs.length) := kY.cell 2
    have qx : World.cell? V1 ⟨g, 2, none⟩ = some (.slice A2 fs.length c2) := kg.cell 2
    have ty : gY < (World.heap V1).size := kY.lt
    have tx : g < (World.heap V1).size := kg.lt
    have hgr : gF ≠ gY := by omega
    have hHK := hide (⟨kF, hin⟩ : _ ∧ _)
    go_wp2_with fail
    go_region_held3 (fun w' => World.grownBy V1 w' (some gF) ∧ w'.cell? ⟨gY, 2, none⟩ = some (.slice (some ⟨gF, 0, none⟩) fs.length fs.length) ∧ w'.cell? ⟨g, 2, none⟩ = some (.slice A2 fs.length c2)) (with_reducible (first | exact keepC0 qy qx | exact keepC (p := gY) (q := g) (by omega) (by omega) (by assumption) (by assumption))) (first | (refine step_copy_whole rfl (.tmp 46) (.tmp 50) 32 32 rfl 90 2 fs.length gF fs.length A2 c2 Try.underlying32 szF rfl rfl _ 90 (Blk.drew hHK.out.1) (fcells fs) (lenF fs) hHK.out.2.2.2 (sizF fs) (fcells_one fs) ?_; intro V2 hb4 hg4))
    have hS2 : World.grownBy V1 V2 (some gF) := sG (by assumption)
    clear hHK qy qx ty tx kg kR G hin
    replace G0 := below_only G0 hS2 (by omega) G0.size
    replace kY := kY.grown hS2 (by intro e; injection e with e; omega)
    replace kT := kT.grown hS2 (by intro e; injection e with e; omega)
    replace kK := kK.grown hS2 (by intro e; injection e with e; omega)
    replace kF := hb4
    clear hS2 hb4 hg4
    have kg := HB.out.1.below G0 HB.out.1.lt
    have kR := HB.out.2.1.below G0 HB.out.2.1.lt
    have G := HB.out.2.2.1.trans (G0.mono HB.out.2.2.2.1)
    have hin := HB.out.2.2.2.2.below G0
    clear hin kg G0
    have hyR : w.heap.size ≠ gY := by omega
    have hz0 := kY.lt
    have hz1 := kT.lt
    have hz2 := kK.lt
    have hz3 := kF.lt
    obtain ⟨tY, qY0, fY0, qY1, fY1, qY2, fY2, qY3, fY3, qY4, fY4⟩ := kY.f5
    obtain ⟨tR, qR0, fR0, qR1, fR1, qR2, fR2, qR3, fR3, qR4, fR4⟩ := kR.f5
    go_wp2_with fail
    clear tY qY0 fY0 qY1 fY1 qY2 fY2 qY3 fY3 qY4 fY4 tR qR0 fR0 qR1 fR1 qR2 fR2 qR3 fR3 qR4 fR4
    replace kY := kY.far (p := ⟨w.heap.size, 0, none⟩) (show gY ≠ w.heap.size by omega) (.slice (some ⟨gT, 0, none⟩) ts.length ts.length)
    replace kT := kT.far (p := ⟨w.heap.size, 0, none⟩) (show gT ≠ w.heap.size by omega) (.slice (some ⟨gT, 0, none⟩) ts.length ts.length)
    replace kK := kK.far (p := ⟨w.heap.size, 0, none⟩) (show gK ≠ w.heap.size by omega) (.slice (some ⟨gT, 0, none⟩) ts.length ts.length)
    replace kF := kF.far (p := ⟨w.heap.size, 0, none⟩) (show gF ≠ w.heap.size by omega) (.slice (some ⟨gT, 0, none⟩) ts.length ts.length)
    replace kR : Blk (V2.setCell ⟨w.heap.size, 0, none⟩ (.slice (some ⟨gT, 0, none⟩) ts.length ts.length)) (w.heap.size) 34 #[.slice (some ⟨gT, 0, none⟩) ts.length ts.length, .slice none 0 0, .slice none 0 0, .int .i64 0, .bool false] := kR.set_ 0 (.slice (some ⟨gT, 0, none⟩) ts.length ts.length)
    replace G : Below w.heap.size w (V2.setCell ⟨w.heap.size, 0, none⟩ (.slice (some ⟨gT, 0, none⟩) ts.length ts.length)) := Below.setCell G (show w.heap.size ≤ w.heap.size by omega) _
    have z11 : (V2.setCell ⟨w.heap.size, 0, none⟩ (.slice (some ⟨gT, 0, none⟩) ts.length ts.length)).heap.size = V2.heap.size := by simp [World.setCell]
    generalize V2.setCell ⟨w.heap.size, 0, none⟩ (.slice (some ⟨gT, 0, none⟩) ts.length ts.length) = W11 at kY kR kT kK kF G z11 ⊢
    replace kY := kY.far (p := ⟨w.heap.size, 1, none⟩) (show gY ≠ w.heap.size by omega) (.slice (some ⟨gK, 0, none⟩) ks.length ks.length)
    replace kT := kT.far (p := ⟨w.heap.size, 1, none⟩) (show gT ≠ w.heap.size by omega) (.slice (some ⟨gK, 0, none⟩) ks.length ks.length)
    replace kK := kK.far (p := ⟨w.heap.size, 1, none⟩) (show gK ≠ w.heap.size by omega) (.slice (some ⟨gK, 0, none⟩) ks.length ks.length)
    replace kF := kF.far (p := ⟨w.heap.size, 1, none⟩) (show gF ≠ w.heap.size by omega) (.slice (some ⟨gK, 0, none⟩) ks.length ks.length)
    replace kR : Blk (W11.setCell ⟨w.heap.size, 1, none⟩ (.slice (some ⟨gK, 0, none⟩) ks.length ks.length)) (w.heap.size) 34 #[.slice (some ⟨gT, 0, none⟩) ts.length ts.length, .slice (some ⟨gK, 0, none⟩) ks.length ks.length, .slice none 0 0, .int .i64 0, .bool false] := kR.set_ 1 (.slice (some ⟨gK, 0, none⟩) ks.length ks.length)
    replace G : Below w.heap.size w (W11.setCell ⟨w.heap.size, 1, none⟩ (.slice (some ⟨gK, 0, none⟩) ks.length ks.length)) := Below.setCell G (show w.heap.size ≤ w.heap.size by omega) _
    have z12 : (W11.setCell ⟨w.heap.size, 1, none⟩ (.slice (some ⟨gK, 0, none⟩) ks.length ks.length)).heap.size = W11.heap.size := by simp [World.setCell]
    generalize W11.setCell ⟨w.heap.size, 1, none⟩ (.slice (some ⟨gK, 0, none⟩) ks.length ks.length) = W12 at kY kR kT kK kF G z12 ⊢
    replace kY := kY.far (p := ⟨w.heap.size, 2, none⟩) (show gY ≠ w.heap.size by omega) (.slice (some ⟨gF, 0, none⟩) fs.length fs.length)
    replace kT := kT.far (p := ⟨w.heap.size, 2, none⟩) (show gT ≠ w.heap.size by omega) (.slice (some ⟨gF, 0, none⟩) fs.length fs.length)
    replace kK := kK.far (p := ⟨w.heap.size, 2, none⟩) (show gK ≠ w.heap.size by omega) (.slice (some ⟨gF, 0, none⟩) fs.length fs.length)
    replace kF := kF.far (p := ⟨w.heap.size, 2, none⟩) (show gF ≠ w.heap.size by omega) (.slice (some ⟨gF, 0, none⟩) fs.length fs.length)
    replace kR : Blk (W12.setCell ⟨w.heap.size, 2, none⟩ (.slice (some ⟨gF, 0, none⟩) fs.length fs.length)) (w.heap.size) 34 #[.slice (some ⟨gT, 0, none⟩) ts.length ts.length, .slice (some ⟨gK, 0, none⟩) ks.length ks.length, .slice (some ⟨gF, 0, none⟩) fs.length fs.length, .int .i64 0, .bool false] := kR.set_ 2 (.slice (some ⟨gF, 0, none⟩) fs.length fs.length)
    replace G : Below w.heap.size w (W12.setCell ⟨w.heap.size, 2, none⟩ (.slice (some ⟨gF, 0, none⟩) fs.length fs.length)) := Below.setCell G (show w.heap.size ≤ w.heap.size by omega) _
    have z13 : (W12.setCell ⟨w.heap.size, 2, none⟩ (.slice (some ⟨gF, 0, none⟩) fs.length fs.length)).heap.size = W12.heap.size := by simp [World.setCell]
    generalize W12.setCell ⟨w.heap.size, 2, none⟩ (.slice (some ⟨gF, 0, none⟩) fs.length fs.length) = W13 at kY kR kT kK kF G z13 ⊢
    replace kY := kY.far (p := ⟨w.heap.size, 3, none⟩) (show gY ≠ w.heap.size by omega) (.int .i64 tn)
    replace kT := kT.far (p := ⟨w.heap.size, 3, none⟩) (show gT ≠ w.heap.size by omega) (.int .i64 tn)
    replace kK := kK.far (p := ⟨w.heap.size, 3, none⟩) (show gK ≠ w.heap.size by omega) (.int .i64 tn)
    replace kF := kF.far (p := ⟨w.heap.size, 3, none⟩) (show gF ≠ w.heap.size by omega) (.int .i64 tn)
    replace kR : Blk (W13.setCell ⟨w.heap.size, 3, none⟩ (.int .i64 tn)) (w.heap.size) 34 #[.slice (some ⟨gT, 0, none⟩) ts.length ts.length, .slice (some ⟨gK, 0, none⟩) ks.length ks.length, .slice (some ⟨gF, 0, none⟩) fs.length fs.length, .int .i64 tn, .bool false] := kR.set_ 3 (.int .i64 tn)
    replace G : Below w.heap.size w (W13.setCell ⟨w.heap.size, 3, none⟩ (.int .i64 tn)) := Below.setCell G (show w.heap.size ≤ w.heap.size by omega) _
    have z14 : (W13.setCell ⟨w.heap.size, 3, none⟩ (.int .i64 tn)).heap.size = W13.heap.size := by simp [World.setCell]
    generalize W13.setCell ⟨w.heap.size, 3, none⟩ (.int .i64 tn) = W14 at kY kR kT kK kF G z14 ⊢
    replace kY := kY.far (p := ⟨w.heap.size, 4, none⟩) (show gY ≠ w.heap.size by omega) (.bool st)
    replace kT := kT.far (p := ⟨w.heap.size, 4, none⟩) (show gT ≠ w.heap.size by omega) (.bool st)
    replace kK := kK.far (p := ⟨w.heap.size, 4, none⟩) (show gK ≠ w.heap.size by omega) (.bool st)
    replace kF := kF.far (p := ⟨w.heap.size, 4, none⟩) (show gF ≠ w.heap.size by omega) (.bool st)
    replace kR : Blk (W14.setCell ⟨w.heap.size, 4, none⟩ (.bool st)) (w.heap.size) 34 #[.slice (some ⟨gT, 0, none⟩) ts.length ts.length, .slice (some ⟨gK, 0, none⟩) ks.length ks.length, .slice (some ⟨gF, 0, none⟩) fs.length fs.length, .int .i64 tn, .bool st] := kR.set_ 4 (.bool st)
    replace G : Below w.heap.size w (W14.setCell ⟨w.heap.size, 4, none⟩ (.bool st)) := Below.setCell G (show w.heap.size ≤ w.heap.size by omega) _
    have z15 : (W14.setCell ⟨w.heap.size, 4, none⟩ (.bool st)).heap.size = W14.heap.size := by simp [World.setCell]
    generalize W14.setCell ⟨w.heap.size, 4, none⟩ (.bool st) = W15 at kY kR kT kK kF G z15 ⊢
    obtain ⟨tR, qR0, qR1, qR2, qR3, qR4⟩ := kR.q5
    exact bodyPost_ret (v := .agg #[.slice (some ⟨gT, 0, none⟩) ts.length ts.length, .slice (some ⟨gK, 0, none⟩) ks.length ks.length, .slice (some ⟨gF, 0, none⟩) fs.length fs.length, .int .i64 tn, .bool st]) (by simp [results, Try.results49, go_sem, qR0, qR1, qR2, qR3, qR4]) rfl ⟨some ⟨gT, 0, none⟩, some ⟨gK, 0, none⟩, some ⟨gF, 0, none⟩, _, _, _, rfl, ⟨ownOf kT (by omega) l0 (lenT ts), ownOf kK (by omega) l1 (lenK ks), ownOf kF (by omega) l2 (lenF fs)⟩, G⟩
end Go.Proofs.Ytgncjcnobojgbaa

namespace Go.Proofs.Ytgncjcnobojgbaa
open Go.RowKit
set_option linter.unusedVariables false

theorem l6May_v (a b c d e : Int) (ts : List T7) (ks : List Int) (fs : List F2) (A0 A1 A2 : Option Addr) (c0 c1 c2 : Nat) (tn : Int) (st : Bool) (wk : Int) (z : Bool) (hz : mayB a b c d e ts ks fs tn wk = z) (w : World) (ht : ts.length ≤ 1048576) (hk : ks.length ≤ 1048576) (hf : fs.length ≤ 1048576) (h : InPool w ts ks fs A0 A1 A2) :
    Calls Try.prog 89 #[.agg #[.int .i64 a, .int .i64 b, .int .i64 c, .int .i64 d, .int .i64 e], .agg #[.slice A0 ts.length c0, .slice A1 ks.length c1, .slice A2 fs.length c2, .int .i64 tn, .bool st], .int .i64 wk] w fun r w' => r = .returned (.bool z) ∧ Below w.heap.size w w' := hz ▸ l6May_any a b c d e ts ks fs A0 A1 A2 c0 c1 c2 tn st wk w ht hk hf h
theorem l5Has_v (ts : List T7) (A0 A1 A2 : Option Addr) (c0 n1 c1 n2 c2 : Nat) (tn : Int) (st : Bool) (id : Int) (z : Bool) (hz : btw id 0 (ts.length - 1) = z) (w : World) (hlen : ts.length ≤ 1048576) :
    Calls Try.prog 159 #[.agg #[.slice A0 ts.length c0, .slice A1 n1 c1, .slice A2 n2 c2, .int .i64 tn, .bool st], .int .i64 id] w fun r w' => r = .returned (.bool z) ∧ Below w.heap.size w w' := hz ▸ l5Has_any ts A0 A1 A2 c0 n1 c1 n2 c2 tn st id w hlen
theorem sLevelIn_v (a b c d e n : Int) (z : Bool) (hz : levelB a b c d e n = z) (w : World) : Calls Try.prog 90 #[.agg #[.int .i64 a, .int .i64 b, .int .i64 c, .int .i64 d, .int .i64 e], .int .i64 n] w fun r w' => r = .returned (.bool z) ∧ Below w.heap.size w w' := hz ▸ sLevelIn_any a b c d e n w

set_option maxRecDepth 100000 in
set_option maxHeartbeats 4000000 in
theorem leveled_may (a b c d e : Int) (ts : List T7) (ks : List Int) (fs : List F2) (A0 A1 A2 : Option Addr) (c0 c1 c2 : Nat) (tn : Int) (st : Bool) (wk id lv : Int) (w : World) (ht : ts.length ≤ 1048576) (hk : ks.length ≤ 1048576) (hf : fs.length ≤ 1048576) (h : InPool w ts ks fs A0 A1 A2) (hm : mayB a b c d e ts ks fs tn wk = false) : Calls Try.prog 141 #[.agg #[.int .i64 a, .int .i64 b, .int .i64 c, .int .i64 d, .int .i64 e], .agg #[.slice A0 ts.length c0, .slice A1 ks.length c1, .slice A2 fs.length c2, .int .i64 tn, .bool st], .int .i64 wk, .int .i64 id, .int .i64 lv] w (GaveO w.heap.size w (noO (poolB a b c d e ts ks fs tn) ts ks fs tn st 8)) := by
  have H := hide h
  clear h
  have hNo : Hid (∀ V, InPool V ts ks fs A0 A1 A2 → Calls Try.prog 91 #[.agg #[.int .i64 a, .int .i64 b, .int .i64 c, .int .i64 d, .int .i64 e], .agg #[.slice A0 ts.length c0, .slice A1 ks.length c1, .slice A2 fs.length c2, .int .i64 tn, .bool st], .int .i64 8] V (GaveO V.heap.size V (noO (poolB a b c d e ts ks fs tn) ts ks fs tn st 8))) := hide (fun V hV => l6No_any a b c d e ts ks fs A0 A1 A2 c0 c1 c2 tn st 8 V ht hk hf hV)
  generalize noO (poolB a b c d e ts ks fs tn) ts ks fs tn st 8 = o at hNo ⊢
  have HY := hide (⟨hm, trivial⟩ : _ ∧ True)
  clear hm
  go_enter Try.func141, Try.ntmps141
  go_wp2_with fail
  have G := Below.refl w.heap.size w
  have kP := Blk.new w 28 #[.int .i64 a, .int .i64 b, .int .i64 c, .int .i64 d, .int .i64 e]
  have hbs := G.size
  replace G := G.alloc (by omega) (.cells #[.int .i64 a, .int .i64 b, .int .i64 c, .int .i64 d, .int .i64 e] 28)
  have z1 : (w.alloc (.cells #[.int .i64 a, .int .i64 b, .int .i64 c, .int .i64 d, .int .i64 e] 28)).heap.size = w.heap.size + 1 := by simp
  clear hbs
  generalize w.alloc (.cells #[.int .i64 a, .int .i64 b, .int .i64 c, .int .i64 d, .int .i64 e] 28) = W1 at kP G z1 ⊢
  have kX : Blk (W1.alloc (.cells #[.slice A0 ts.length c0, .slice A1 ks.length c1, .slice A2 fs.length c2, .int .i64 tn, .bool st] 34)) (w.heap.size + 1) 34 #[.slice A0 ts.length c0, .slice A1 ks.length c1, .slice A2 fs.length c2, .int .i64 tn, .bool st] := by
    have h := Blk.new W1 34 #[.slice A0 ts.length c0, .slice A1 ks.length c1, .slice A2 fs.length c2, .int .i64 tn, .bool st]
    rw [show W1.heap.size = w.heap.size + 1 by omega] at h
    exact h
  replace kP := kP.alloc (.cells #[.slice A0 ts.length c0, .slice A1 ks.length c1, .slice A2 fs.length c2, .int .i64 tn, .bool st] 34)
  have hbs := G.size
  replace G := G.alloc (by omega) (.cells #[.slice A0 ts.length c0, .slice A1 ks.length c1, .slice A2 fs.length c2, .int .i64 tn, .bool st] 34)
  have z2 : (W1.alloc (.cells #[.slice A0 ts.length c0, .slice A1 ks.length c1, .slice A2 fs.length c2, .int .i64 tn, .bool st] 34)).heap.size = W1.heap.size + 1 := by simp
  clear hbs
  generalize W1.alloc (.cells #[.slice A0 ts.length c0, .slice A1 ks.length c1, .slice A2 fs.length c2, .int .i64 tn, .bool st] 34) = W2 at kP kX G z2 ⊢
  have kR : Blk (W2.alloc (.cells #[.slice none 0 0, .slice none 0 0, .slice none 0 0, .int .i64 0, .bool false] 34)) (w.heap.size + 2) 34 #[.slice none 0 0, .slice none 0 0, .slice none 0 0, .int .i64 0, .bool false] := by
    have h := Blk.new W2 34 #[.slice none 0 0, .slice none 0 0, .slice none 0 0, .int .i64 0, .bool false]
    rw [show W2.heap.size = w.heap.size + 2 by omega] at h
    exact h
  replace kP := kP.alloc (.cells #[.slice none 0 0, .slice none 0 0, .slice none 0 0, .int .i64 0, .bool false] 34)
  replace kX := kX.alloc (.cells #[.slice none 0 0, .slice none 0 0, .slice none 0 0, .int .i64 0, .bool false] 34)
  have hbs := G.size
  replace G := G.alloc (by omega) (.cells #[.slice none 0 0, .slice none 0 0, .slice none 0 0, .int .i64 0, .bool false] 34)
  have z3 : (W2.alloc (.cells #[.slice none 0 0, .slice none 0 0, .slice none 0 0, .int .i64 0, .bool false] 34)).heap.size = W2.heap.size + 1 := by simp
  clear hbs
  generalize W2.alloc (.cells #[.slice none 0 0, .slice none 0 0, .slice none 0 0, .int .i64 0, .bool false] 34) = W3 at kP kX kR G z3 ⊢
  have kS : Blk (W3.alloc (.cells #[.int .i64 0, .int .i64 0] 65)) (w.heap.size + 3) 65 #[.int .i64 0, .int .i64 0] := by
    have h := Blk.new W3 65 #[.int .i64 0, .int .i64 0]
    rw [show W3.heap.size = w.heap.size + 3 by omega] at h
    exact h
  replace kP := kP.alloc (.cells #[.int .i64 0, .int .i64 0] 65)
  replace kX := kX.alloc (.cells #[.int .i64 0, .int .i64 0] 65)
  replace kR := kR.alloc (.cells #[.int .i64 0, .int .i64 0] 65)
  have hbs := G.size
  replace G := G.alloc (by omega) (.cells #[.int .i64 0, .int .i64 0] 65)
  have z4 : (W3.alloc (.cells #[.int .i64 0, .int .i64 0] 65)).heap.size = W3.heap.size + 1 := by simp
  clear hbs
  generalize W3.alloc (.cells #[.int .i64 0, .int .i64 0] 65) = W4 at kP kX kR kS G z4 ⊢
  go_call (l6May_v a b c d e ts ks fs A0 A1 A2 c0 c1 c2 tn st wk false HY.out.1 _ ht hk hf (H.out.below G)) as r W5 ⟨rfl, g1⟩
  have hbs := G.size
  replace kP := kP.below g1 kP.lt
  replace kX := kX.below g1 kX.lt
  replace kR := kR.below g1 kR.lt
  replace kS := kS.below g1 kS.lt
  replace G := G.trans (g1.mono (by omega))
  have z5 := g1.size
  clear g1 hbs
  obtain ⟨tP, qP0, fP0, qP1, fP1, qP2, fP2, qP3, fP3, qP4, fP4⟩ := kP.f5
  obtain ⟨tX, qX0, fX0, qX1, fX1, qX2, fX2, qX3, fX3, qX4, fX4⟩ := kX.f5
  obtain ⟨tR, qR0, fR0, qR1, fR1, qR2, fR2, qR3, fR3, qR4, fR4⟩ := kR.f5
  obtain ⟨tS, qS0, fS0, qS1, fS1⟩ := kS.f2
  go_wp2_with fail
  go_call (hNo.out _ (H.out.below G)) as r W6 ⟨B0, B1, B2, d0, d1, d2, rfl, own, g1⟩
  clear tP qP0 fP0 qP1 fP1 qP2 fP2 qP3 fP3 qP4 fP4 tX qX0 fX0 qX1 fX1 qX2 fX2 qX3 fX3 qX4 fX4 tR qR0 fR0 qR1 fR1 qR2 fR2 qR3 fR3 qR4 fR4 tS qS0 fS0 qS1 fS1
  have hbs := G.size
  replace kP := kP.below g1 kP.lt
  replace kX := kX.below g1 kX.lt
  replace kR := kR.below g1 kR.lt
  replace kS := kS.below g1 kS.lt
  replace G := G.trans (g1.mono (by omega))
  have z6 := g1.size
  clear g1 hbs
  have rC := own
  clear own
  obtain ⟨tP, qP0, fP0, qP1, fP1, qP2, fP2, qP3, fP3, qP4, fP4⟩ := kP.f5
  obtain ⟨tX, qX0, fX0, qX1, fX1, qX2, fX2, qX3, fX3, qX4, fX4⟩ := kX.f5
  obtain ⟨tR, qR0, fR0, qR1, fR1, qR2, fR2, qR3, fR3, qR4, fR4⟩ := kR.f5
  obtain ⟨tS, qS0, fS0, qS1, fS1⟩ := kS.f2
  go_wp2_with fail
  clear tP qP0 fP0 qP1 fP1 qP2 fP2 qP3 fP3 qP4 fP4 tX qX0 fX0 qX1 fX1 qX2 fX2 qX3 fX3 qX4 fX4 tR qR0 fR0 qR1 fR1 qR2 fR2 qR3 fR3 qR4 fR4 tS qS0 fS0 qS1 fS1
  replace kP := kP.far (p := ⟨w.heap.size + 2, 0, none⟩) (show w.heap.size ≠ w.heap.size + 2 by omega) (.slice B0 o.ts.length d0)
  replace kX := kX.far (p := ⟨w.heap.size + 2, 0, none⟩) (show w.heap.size + 1 ≠ w.heap.size + 2 by omega) (.slice B0 o.ts.length d0)
  replace kS := kS.far (p := ⟨w.heap.size + 2, 0, none⟩) (show w.heap.size + 3 ≠ w.heap.size + 2 by omega) (.slice B0 o.ts.length d0)
  replace kR : Blk (W6.setCell ⟨w.heap.size + 2, 0, none⟩ (.slice B0 o.ts.length d0)) (w.heap.size + 2) 34 #[.slice B0 o.ts.length d0, .slice none 0 0, .slice none 0 0, .int .i64 0, .bool false] := kR.set_ 0 (.slice B0 o.ts.length d0)
  replace rC := rC.store (p := ⟨w.heap.size + 2, 0, none⟩) (show w.heap.size + 2 < W5.heap.size ∨ W6.heap.size ≤ w.heap.size + 2 by omega) (.slice B0 o.ts.length d0)
  replace G : Below w.heap.size w (W6.setCell ⟨w.heap.size + 2, 0, none⟩ (.slice B0 o.ts.length d0)) := Below.setCell G (show w.heap.size ≤ w.heap.size + 2 by omega) _
  have z7 : (W6.setCell ⟨w.heap.size + 2, 0, none⟩ (.slice B0 o.ts.length d0)).heap.size = W6.heap.size := by simp [World.setCell]
  generalize W6.setCell ⟨w.heap.size + 2, 0, none⟩ (.slice B0 o.ts.length d0) = W7 at kP kX kR kS rC G z7 ⊢
  replace kP := kP.far (p := ⟨w.heap.size + 2, 1, none⟩) (show w.heap.size ≠ w.heap.size + 2 by omega) (.slice B1 o.ks.length d1)
  replace kX := kX.far (p := ⟨w.heap.size + 2, 1, none⟩) (show w.heap.size + 1 ≠ w.heap.size + 2 by omega) (.slice B1 o.ks.length d1)
  replace kS := kS.far (p := ⟨w.heap.size + 2, 1, none⟩) (show w.heap.size + 3 ≠ w.heap.size + 2 by omega) (.slice B1 o.ks.length d1)
  replace kR : Blk (W7.setCell ⟨w.heap.size + 2, 1, none⟩ (.slice B1 o.ks.length d1)) (w.heap.size + 2) 34 #[.slice B0 o.ts.length d0, .slice B1 o.ks.length d1, .slice none 0 0, .int .i64 0, .bool false] := kR.set_ 1 (.slice B1 o.ks.length d1)
  replace rC := rC.store (p := ⟨w.heap.size + 2, 1, none⟩) (show w.heap.size + 2 < W5.heap.size ∨ W6.heap.size ≤ w.heap.size + 2 by omega) (.slice B1 o.ks.length d1)
  replace G : Below w.heap.size w (W7.setCell ⟨w.heap.size + 2, 1, none⟩ (.slice B1 o.ks.length d1)) := Below.setCell G (show w.heap.size ≤ w.heap.size + 2 by omega) _
  have z8 : (W7.setCell ⟨w.heap.size + 2, 1, none⟩ (.slice B1 o.ks.length d1)).heap.size = W7.heap.size := by simp [World.setCell]
  generalize W7.setCell ⟨w.heap.size + 2, 1, none⟩ (.slice B1 o.ks.length d1) = W8 at kP kX kR kS rC G z8 ⊢
  replace kP := kP.far (p := ⟨w.heap.size + 2, 2, none⟩) (show w.heap.size ≠ w.heap.size + 2 by omega) (.slice B2 o.fs.length d2)
  replace kX := kX.far (p := ⟨w.heap.size + 2, 2, none⟩) (show w.heap.size + 1 ≠ w.heap.size + 2 by omega) (.slice B2 o.fs.length d2)
  replace kS := kS.far (p := ⟨w.heap.size + 2, 2, none⟩) (show w.heap.size + 3 ≠ w.heap.size + 2 by omega) (.slice B2 o.fs.length d2)
  replace kR : Blk (W8.setCell ⟨w.heap.size + 2, 2, none⟩ (.slice B2 o.fs.length d2)) (w.heap.size + 2) 34 #[.slice B0 o.ts.length d0, .slice B1 o.ks.length d1, .slice B2 o.fs.length d2, .int .i64 0, .bool false] := kR.set_ 2 (.slice B2 o.fs.length d2)
  replace rC := rC.store (p := ⟨w.heap.size + 2, 2, none⟩) (show w.heap.size + 2 < W5.heap.size ∨ W6.heap.size ≤ w.heap.size + 2 by omega) (.slice B2 o.fs.length d2)
  replace G : Below w.heap.size w (W8.setCell ⟨w.heap.size + 2, 2, none⟩ (.slice B2 o.fs.length d2)) := Below.setCell G (show w.heap.size ≤ w.heap.size + 2 by omega) _
  have z9 : (W8.setCell ⟨w.heap.size + 2, 2, none⟩ (.slice B2 o.fs.length d2)).heap.size = W8.heap.size := by simp [World.setCell]
  generalize W8.setCell ⟨w.heap.size + 2, 2, none⟩ (.slice B2 o.fs.length d2) = W9 at kP kX kR kS rC G z9 ⊢
  replace kP := kP.far (p := ⟨w.heap.size + 2, 3, none⟩) (show w.heap.size ≠ w.heap.size + 2 by omega) (.int .i64 o.tn)
  replace kX := kX.far (p := ⟨w.heap.size + 2, 3, none⟩) (show w.heap.size + 1 ≠ w.heap.size + 2 by omega) (.int .i64 o.tn)
  replace kS := kS.far (p := ⟨w.heap.size + 2, 3, none⟩) (show w.heap.size + 3 ≠ w.heap.size + 2 by omega) (.int .i64 o.tn)
  replace kR : Blk (W9.setCell ⟨w.heap.size + 2, 3, none⟩ (.int .i64 o.tn)) (w.heap.size + 2) 34 #[.slice B0 o.ts.length d0, .slice B1 o.ks.length d1, .slice B2 o.fs.length d2, .int .i64 o.tn, .bool false] := kR.set_ 3 (.int .i64 o.tn)
  replace rC := rC.store (p := ⟨w.heap.size + 2, 3, none⟩) (show w.heap.size + 2 < W5.heap.size ∨ W6.heap.size ≤ w.heap.size + 2 by omega) (.int .i64 o.tn)
  replace G : Below w.heap.size w (W9.setCell ⟨w.heap.size + 2, 3, none⟩ (.int .i64 o.tn)) := Below.setCell G (show w.heap.size ≤ w.heap.size + 2 by omega) _
  have z10 : (W9.setCell ⟨w.heap.size + 2, 3, none⟩ (.int .i64 o.tn)).heap.size = W9.heap.size := by simp [World.setCell]
  generalize W9.setCell ⟨w.heap.size + 2, 3, none⟩ (.int .i64 o.tn) = W10 at kP kX kR kS rC G z10 ⊢
  replace kP := kP.far (p := ⟨w.heap.size + 2, 4, none⟩) (show w.heap.size ≠ w.heap.size + 2 by omega) (.bool o.st)
  replace kX := kX.far (p := ⟨w.heap.size + 2, 4, none⟩) (show w.heap.size + 1 ≠ w.heap.size + 2 by omega) (.bool o.st)
  replace kS := kS.far (p := ⟨w.heap.size + 2, 4, none⟩) (show w.heap.size + 3 ≠ w.heap.size + 2 by omega) (.bool o.st)
  replace kR : Blk (W10.setCell ⟨w.heap.size + 2, 4, none⟩ (.bool o.st)) (w.heap.size + 2) 34 #[.slice B0 o.ts.length d0, .slice B1 o.ks.length d1, .slice B2 o.fs.length d2, .int .i64 o.tn, .bool o.st] := kR.set_ 4 (.bool o.st)
  replace rC := rC.store (p := ⟨w.heap.size + 2, 4, none⟩) (show w.heap.size + 2 < W5.heap.size ∨ W6.heap.size ≤ w.heap.size + 2 by omega) (.bool o.st)
  replace G : Below w.heap.size w (W10.setCell ⟨w.heap.size + 2, 4, none⟩ (.bool o.st)) := Below.setCell G (show w.heap.size ≤ w.heap.size + 2 by omega) _
  have z11 : (W10.setCell ⟨w.heap.size + 2, 4, none⟩ (.bool o.st)).heap.size = W10.heap.size := by simp [World.setCell]
  generalize W10.setCell ⟨w.heap.size + 2, 4, none⟩ (.bool o.st) = W11 at kP kX kR kS rC G z11 ⊢
  replace kP := kP.far (p := ⟨w.heap.size + 3, 0, none⟩) (show w.heap.size ≠ w.heap.size + 3 by omega) (.int .i64 o.rp)
  replace kX := kX.far (p := ⟨w.heap.size + 3, 0, none⟩) (show w.heap.size + 1 ≠ w.heap.size + 3 by omega) (.int .i64 o.rp)
  replace kR := kR.far (p := ⟨w.heap.size + 3, 0, none⟩) (show w.heap.size + 2 ≠ w.heap.size + 3 by omega) (.int .i64 o.rp)
  replace kS : Blk (W11.setCell ⟨w.heap.size + 3, 0, none⟩ (.int .i64 o.rp)) (w.heap.size + 3) 65 #[.int .i64 o.rp, .int .i64 0] := kS.set_ 0 (.int .i64 o.rp)
  replace rC := rC.store (p := ⟨w.heap.size + 3, 0, none⟩) (show w.heap.size + 3 < W5.heap.size ∨ W6.heap.size ≤ w.heap.size + 3 by omega) (.int .i64 o.rp)
  replace G : Below w.heap.size w (W11.setCell ⟨w.heap.size + 3, 0, none⟩ (.int .i64 o.rp)) := Below.setCell G (show w.heap.size ≤ w.heap.size + 3 by omega) _
  have z12 : (W11.setCell ⟨w.heap.size + 3, 0, none⟩ (.int .i64 o.rp)).heap.size = W11.heap.size := by simp [World.setCell]
  generalize W11.setCell ⟨w.heap.size + 3, 0, none⟩ (.int .i64 o.rp) = W12 at kP kX kR kS rC G z12 ⊢
  replace kP := kP.far (p := ⟨w.heap.size + 3, 1, none⟩) (show w.heap.size ≠ w.heap.size + 3 by omega) (.int .i64 o.ou)
  replace kX := kX.far (p := ⟨w.heap.size + 3, 1, none⟩) (show w.heap.size + 1 ≠ w.heap.size + 3 by omega) (.int .i64 o.ou)
  replace kR := kR.far (p := ⟨w.heap.size + 3, 1, none⟩) (show w.heap.size + 2 ≠ w.heap.size + 3 by omega) (.int .i64 o.ou)
  replace kS : Blk (W12.setCell ⟨w.heap.size + 3, 1, none⟩ (.int .i64 o.ou)) (w.heap.size + 3) 65 #[.int .i64 o.rp, .int .i64 o.ou] := kS.set_ 1 (.int .i64 o.ou)
  replace rC := rC.store (p := ⟨w.heap.size + 3, 1, none⟩) (show w.heap.size + 3 < W5.heap.size ∨ W6.heap.size ≤ w.heap.size + 3 by omega) (.int .i64 o.ou)
  replace G : Below w.heap.size w (W12.setCell ⟨w.heap.size + 3, 1, none⟩ (.int .i64 o.ou)) := Below.setCell G (show w.heap.size ≤ w.heap.size + 3 by omega) _
  have z13 : (W12.setCell ⟨w.heap.size + 3, 1, none⟩ (.int .i64 o.ou)).heap.size = W12.heap.size := by simp [World.setCell]
  generalize W12.setCell ⟨w.heap.size + 3, 1, none⟩ (.int .i64 o.ou) = W13 at kP kX kR kS rC G z13 ⊢
  obtain ⟨tR, qR0, qR1, qR2, qR3, qR4⟩ := kR.q5
  obtain ⟨tS, qS0, qS1⟩ := kS.q2
  exact bodyPost_ret (v := .tuple #[.agg #[.slice B0 o.ts.length d0, .slice B1 o.ks.length d1, .slice B2 o.fs.length d2, .int .i64 o.tn, .bool o.st], .agg #[.int .i64 o.rp, .int .i64 o.ou]]) (by simp [results, Try.results141, go_sem, qR0, qR1, qR2, qR3, qR4, qS0, qS1]) rfl ⟨B0, B1, B2, d0, d1, d2, rfl, rC.wide (by omega) (by omega), G⟩

set_option maxRecDepth 100000 in
set_option maxHeartbeats 4000000 in
theorem leveled_has (a b c d e : Int) (ts : List T7) (ks : List Int) (fs : List F2) (A0 A1 A2 : Option Addr) (c0 c1 c2 : Nat) (tn : Int) (st : Bool) (wk id lv : Int) (w : World) (ht : ts.length ≤ 1048576) (hk : ks.length ≤ 1048576) (hf : fs.length ≤ 1048576) (h : InPool w ts ks fs A0 A1 A2) (hm : mayB a b c d e ts ks fs tn wk = true) (hh : btw id 0 (ts.length - 1) = false) : Calls Try.prog 141 #[.agg #[.int .i64 a, .int .i64 b, .int .i64 c, .int .i64 d, .int .i64 e], .agg #[.slice A0 ts.length c0, .slice A1 ks.length c1, .slice A2 fs.length c2, .int .i64 tn, .bool st], .int .i64 wk, .int .i64 id, .int .i64 lv] w (GaveO w.heap.size w (noO (poolB a b c d e ts ks fs tn) ts ks fs tn st 8)) := by
  have H := hide h
  clear h
  have hNo : Hid (∀ V, InPool V ts ks fs A0 A1 A2 → Calls Try.prog 91 #[.agg #[.int .i64 a, .int .i64 b, .int .i64 c, .int .i64 d, .int .i64 e], .agg #[.slice A0 ts.length c0, .slice A1 ks.length c1, .slice A2 fs.length c2, .int .i64 tn, .bool st], .int .i64 8] V (GaveO V.heap.size V (noO (poolB a b c d e ts ks fs tn) ts ks fs tn st 8))) := hide (fun V hV => l6No_any a b c d e ts ks fs A0 A1 A2 c0 c1 c2 tn st 8 V ht hk hf hV)
  generalize noO (poolB a b c d e ts ks fs tn) ts ks fs tn st 8 = o at hNo ⊢
  have HY := hide (⟨hm, hh, trivial⟩ : _ ∧ _ ∧ True)
  clear hm hh
  go_enter Try.func141, Try.ntmps141
  go_wp2_with fail
  have G := Below.refl w.heap.size w
  have kP := Blk.new w 28 #[.int .i64 a, .int .i64 b, .int .i64 c, .int .i64 d, .int .i64 e]
  have hbs := G.size
  replace G := G.alloc (by omega) (.cells #[.int .i64 a, .int .i64 b, .int .i64 c, .int .i64 d, .int .i64 e] 28)
  have z1 : (w.alloc (.cells #[.int .i64 a, .int .i64 b, .int .i64 c, .int .i64 d, .int .i64 e] 28)).heap.size = w.heap.size + 1 := by simp
  clear hbs
  generalize w.alloc (.cells #[.int .i64 a, .int .i64 b, .int .i64 c, .int .i64 d, .int .i64 e] 28) = W1 at kP G z1 ⊢
  have kX : Blk (W1.alloc (.cells #[.slice A0 ts.length c0, .slice A1 ks.length c1, .slice A2 fs.length c2, .int .i64 tn, .bool st] 34)) (w.heap.size + 1) 34 #[.slice A0 ts.length c0, .slice A1 ks.length c1, .slice A2 fs.length c2, .int .i64 tn, .bool st] := by
    have h := Blk.new W1 34 #[.slice A0 ts.length c0, .slice A1 ks.length c1, .slice A2 fs.length c2, .int .i64 tn, .bool st]
    rw [show W1.heap.size = w.heap.size + 1 by omega] at h
    exact h
  replace kP := kP.alloc (.cells #[.slice A0 ts.length c0, .slice A1 ks.length c1, .slice A2 fs.length c2, .int .i64 tn, .bool st] 34)
  have hbs := G.size
  replace G := G.alloc (by omega) (.cells #[.slice A0 ts.length c0, .slice A1 ks.length c1, .slice A2 fs.length c2, .int .i64 tn, .bool st] 34)
  have z2 : (W1.alloc (.cells #[.slice A0 ts.length c0, .slice A1 ks.length c1, .slice A2 fs.length c2, .int .i64 tn, .bool st] 34)).heap.size = W1.heap.size + 1 := by simp
  clear hbs
  generalize W1.alloc (.cells #[.slice A0 ts.length c0, .slice A1 ks.length c1, .slice A2 fs.length c2, .int .i64 tn, .bool st] 34) = W2 at kP kX G z2 ⊢
  have kR : Blk (W2.alloc (.cells #[.slice none 0 0, .slice none 0 0, .slice none 0 0, .int .i64 0, .bool false] 34)) (w.heap.size + 2) 34 #[.slice none 0 0, .slice none 0 0, .slice none 0 0, .int .i64 0, .bool false] := by
    have h := Blk.new W2 34 #[.slice none 0 0, .slice none 0 0, .slice none 0 0, .int .i64 0, .bool false]
    rw [show W2.heap.size = w.heap.size + 2 by omega] at h
    exact h
  replace kP := kP.alloc (.cells #[.slice none 0 0, .slice none 0 0, .slice none 0 0, .int .i64 0, .bool false] 34)
  replace kX := kX.alloc (.cells #[.slice none 0 0, .slice none 0 0, .slice none 0 0, .int .i64 0, .bool false] 34)
  have hbs := G.size
  replace G := G.alloc (by omega) (.cells #[.slice none 0 0, .slice none 0 0, .slice none 0 0, .int .i64 0, .bool false] 34)
  have z3 : (W2.alloc (.cells #[.slice none 0 0, .slice none 0 0, .slice none 0 0, .int .i64 0, .bool false] 34)).heap.size = W2.heap.size + 1 := by simp
  clear hbs
  generalize W2.alloc (.cells #[.slice none 0 0, .slice none 0 0, .slice none 0 0, .int .i64 0, .bool false] 34) = W3 at kP kX kR G z3 ⊢
  have kS : Blk (W3.alloc (.cells #[.int .i64 0, .int .i64 0] 65)) (w.heap.size + 3) 65 #[.int .i64 0, .int .i64 0] := by
    have h := Blk.new W3 65 #[.int .i64 0, .int .i64 0]
    rw [show W3.heap.size = w.heap.size + 3 by omega] at h
    exact h
  replace kP := kP.alloc (.cells #[.int .i64 0, .int .i64 0] 65)
  replace kX := kX.alloc (.cells #[.int .i64 0, .int .i64 0] 65)
  replace kR := kR.alloc (.cells #[.int .i64 0, .int .i64 0] 65)
  have hbs := G.size
  replace G := G.alloc (by omega) (.cells #[.int .i64 0, .int .i64 0] 65)
  have z4 : (W3.alloc (.cells #[.int .i64 0, .int .i64 0] 65)).heap.size = W3.heap.size + 1 := by simp
  clear hbs
  generalize W3.alloc (.cells #[.int .i64 0, .int .i64 0] 65) = W4 at kP kX kR kS G z4 ⊢
  go_call (l6May_v a b c d e ts ks fs A0 A1 A2 c0 c1 c2 tn st wk true HY.out.1 _ ht hk hf (H.out.below G)) as r W5 ⟨rfl, g1⟩
  have hbs := G.size
  replace kP := kP.below g1 kP.lt
  replace kX := kX.below g1 kX.lt
  replace kR := kR.below g1 kR.lt
  replace kS := kS.below g1 kS.lt
  replace G := G.trans (g1.mono (by omega))
  have z5 := g1.size
  clear g1 hbs
  obtain ⟨tP, qP0, fP0, qP1, fP1, qP2, fP2, qP3, fP3, qP4, fP4⟩ := kP.f5
  obtain ⟨tX, qX0, fX0, qX1, fX1, qX2, fX2, qX3, fX3, qX4, fX4⟩ := kX.f5
  obtain ⟨tR, qR0, fR0, qR1, fR1, qR2, fR2, qR3, fR3, qR4, fR4⟩ := kR.f5
  obtain ⟨tS, qS0, fS0, qS1, fS1⟩ := kS.f2
  go_wp2_with fail
  go_call (l5Has_v ts A0 A1 A2 c0 ks.length c1 fs.length c2 tn st id false HY.out.2.1 _ ht) as r W6 ⟨rfl, g1⟩
  clear tP qP0 fP0 qP1 fP1 qP2 fP2 qP3 fP3 qP4 fP4 tX qX0 fX0 qX1 fX1 qX2 fX2 qX3 fX3 qX4 fX4 tR qR0 fR0 qR1 fR1 qR2 fR2 qR3 fR3 qR4 fR4 tS qS0 fS0 qS1 fS1
  have hbs := G.size
  replace kP := kP.below g1 kP.lt
  replace kX := kX.below g1 kX.lt
  replace kR := kR.below g1 kR.lt
  replace kS := kS.below g1 kS.lt
  replace G := G.trans (g1.mono (by omega))
  have z6 := g1.size
  clear g1 hbs
  obtain ⟨tP, qP0, fP0, qP1, fP1, qP2, fP2, qP3, fP3, qP4, fP4⟩ := kP.f5
  obtain ⟨tX, qX0, fX0, qX1, fX1, qX2, fX2, qX3, fX3, qX4, fX4⟩ := kX.f5
  obtain ⟨tR, qR0, fR0, qR1, fR1, qR2, fR2, qR3, fR3, qR4, fR4⟩ := kR.f5
  obtain ⟨tS, qS0, fS0, qS1, fS1⟩ := kS.f2
  go_wp2_with fail
  go_call (hNo.out _ (H.out.below G)) as r W7 ⟨B0, B1, B2, d0, d1, d2, rfl, own, g1⟩
  clear tP qP0 fP0 qP1 fP1 qP2 fP2 qP3 fP3 qP4 fP4 tX qX0 fX0 qX1 fX1 qX2 fX2 qX3 fX3 qX4 fX4 tR qR0 fR0 qR1 fR1 qR2 fR2 qR3 fR3 qR4 fR4 tS qS0 fS0 qS1 fS1
  have hbs := G.size
  replace kP := kP.below g1 kP.lt
  replace kX := kX.below g1 kX.lt
  replace kR := kR.below g1 kR.lt
  replace kS := kS.below g1 kS.lt
  replace G := G.trans (g1.mono (by omega))
  have z7 := g1.size
  clear g1 hbs
  have rC := own
  clear own
  obtain ⟨tP, qP0, fP0, qP1, fP1, qP2, fP2, qP3, fP3, qP4, fP4⟩ := kP.f5
  obtain ⟨tX, qX0, fX0, qX1, fX1, qX2, fX2, qX3, fX3, qX4, fX4⟩ := kX.f5
  obtain ⟨tR, qR0, fR0, qR1, fR1, qR2, fR2, qR3, fR3, qR4, fR4⟩ := kR.f5
  obtain ⟨tS, qS0, fS0, qS1, fS1⟩ := kS.f2
  go_wp2_with fail
  clear tP qP0 fP0 qP1 fP1 qP2 fP2 qP3 fP3 qP4 fP4 tX qX0 fX0 qX1 fX1 qX2 fX2 qX3 fX3 qX4 fX4 tR qR0 fR0 qR1 fR1 qR2 fR2 qR3 fR3 qR4 fR4 tS qS0 fS0 qS1 fS1
  replace kP := kP.far (p := ⟨w.heap.size + 2, 0, none⟩) (show w.heap.size ≠ w.heap.size + 2 by omega) (.slice B0 o.ts.length d0)
  replace kX := kX.far (p := ⟨w.heap.size + 2, 0, none⟩) (show w.heap.size + 1 ≠ w.heap.size + 2 by omega) (.slice B0 o.ts.length d0)
  replace kS := kS.far (p := ⟨w.heap.size + 2, 0, none⟩) (show w.heap.size + 3 ≠ w.heap.size + 2 by omega) (.slice B0 o.ts.length d0)
  replace kR : Blk (W7.setCell ⟨w.heap.size + 2, 0, none⟩ (.slice B0 o.ts.length d0)) (w.heap.size + 2) 34 #[.slice B0 o.ts.length d0, .slice none 0 0, .slice none 0 0, .int .i64 0, .bool false] := kR.set_ 0 (.slice B0 o.ts.length d0)
  replace rC := rC.store (p := ⟨w.heap.size + 2, 0, none⟩) (show w.heap.size + 2 < W6.heap.size ∨ W7.heap.size ≤ w.heap.size + 2 by omega) (.slice B0 o.ts.length d0)
  replace G : Below w.heap.size w (W7.setCell ⟨w.heap.size + 2, 0, none⟩ (.slice B0 o.ts.length d0)) := Below.setCell G (show w.heap.size ≤ w.heap.size + 2 by omega) _
  have z8 : (W7.setCell ⟨w.heap.size + 2, 0, none⟩ (.slice B0 o.ts.length d0)).heap.size = W7.heap.size := by simp [World.setCell]
  generalize W7.setCell ⟨w.heap.size + 2, 0, none⟩ (.slice B0 o.ts.length d0) = W8 at kP kX kR kS rC G z8 ⊢
  replace kP := kP.far (p := ⟨w.heap.size + 2, 1, none⟩) (show w.heap.size ≠ w.heap.size + 2 by omega) (.slice B1 o.ks.length d1)
  replace kX := kX.far (p := ⟨w.heap.size + 2, 1, none⟩) (show w.heap.size + 1 ≠ w.heap.size + 2 by omega) (.slice B1 o.ks.length d1)
  replace kS := kS.far (p := ⟨w.heap.size + 2, 1, none⟩) (show w.heap.size + 3 ≠ w.heap.size + 2 by omega) (.slice B1 o.ks.length d1)
  replace kR : Blk (W8.setCell ⟨w.heap.size + 2, 1, none⟩ (.slice B1 o.ks.length d1)) (w.heap.size + 2) 34 #[.slice B0 o.ts.length d0, .slice B1 o.ks.length d1, .slice none 0 0, .int .i64 0, .bool false] := kR.set_ 1 (.slice B1 o.ks.length d1)
  replace rC := rC.store (p := ⟨w.heap.size + 2, 1, none⟩) (show w.heap.size + 2 < W6.heap.size ∨ W7.heap.size ≤ w.heap.size + 2 by omega) (.slice B1 o.ks.length d1)
  replace G : Below w.heap.size w (W8.setCell ⟨w.heap.size + 2, 1, none⟩ (.slice B1 o.ks.length d1)) := Below.setCell G (show w.heap.size ≤ w.heap.size + 2 by omega) _
  have z9 : (W8.setCell ⟨w.heap.size + 2, 1, none⟩ (.slice B1 o.ks.length d1)).heap.size = W8.heap.size := by simp [World.setCell]
  generalize W8.setCell ⟨w.heap.size + 2, 1, none⟩ (.slice B1 o.ks.length d1) = W9 at kP kX kR kS rC G z9 ⊢
  replace kP := kP.far (p := ⟨w.heap.size + 2, 2, none⟩) (show w.heap.size ≠ w.heap.size + 2 by omega) (.slice B2 o.fs.length d2)
  replace kX := kX.far (p := ⟨w.heap.size + 2, 2, none⟩) (show w.heap.size + 1 ≠ w.heap.size + 2 by omega) (.slice B2 o.fs.length d2)
  replace kS := kS.far (p := ⟨w.heap.size + 2, 2, none⟩) (show w.heap.size + 3 ≠ w.heap.size + 2 by omega) (.slice B2 o.fs.length d2)
  replace kR : Blk (W9.setCell ⟨w.heap.size + 2, 2, none⟩ (.slice B2 o.fs.length d2)) (w.heap.size + 2) 34 #[.slice B0 o.ts.length d0, .slice B1 o.ks.length d1, .slice B2 o.fs.length d2, .int .i64 0, .bool false] := kR.set_ 2 (.slice B2 o.fs.length d2)
  replace rC := rC.store (p := ⟨w.heap.size + 2, 2, none⟩) (show w.heap.size + 2 < W6.heap.size ∨ W7.heap.size ≤ w.heap.size + 2 by omega) (.slice B2 o.fs.length d2)
  replace G : Below w.heap.size w (W9.setCell ⟨w.heap.size + 2, 2, none⟩ (.slice B2 o.fs.length d2)) := Below.setCell G (show w.heap.size ≤ w.heap.size + 2 by omega) _
  have z10 : (W9.setCell ⟨w.heap.size + 2, 2, none⟩ (.slice B2 o.fs.length d2)).heap.size = W9.heap.size := by simp [World.setCell]
  generalize W9.setCell ⟨w.heap.size + 2, 2, none⟩ (.slice B2 o.fs.length d2) = W10 at kP kX kR kS rC G z10 ⊢
  replace kP := kP.far (p := ⟨w.heap.size + 2, 3, none⟩) (show w.heap.size ≠ w.heap.size + 2 by omega) (.int .i64 o.tn)
  replace kX := kX.far (p := ⟨w.heap.size + 2, 3, none⟩) (show w.heap.size + 1 ≠ w.heap.size + 2 by omega) (.int .i64 o.tn)
  replace kS := kS.far (p := ⟨w.heap.size + 2, 3, none⟩) (show w.heap.size + 3 ≠ w.heap.size + 2 by omega) (.int .i64 o.tn)
  replace kR : Blk (W10.setCell ⟨w.heap.size + 2, 3, none⟩ (.int .i64 o.tn)) (w.heap.size + 2) 34 #[.slice B0 o.ts.length d0, .slice B1 o.ks.length d1, .slice B2 o.fs.length d2, .int .i64 o.tn, .bool false] := kR.set_ 3 (.int .i64 o.tn)
  replace rC := rC.store (p := ⟨w.heap.size + 2, 3, none⟩) (show w.heap.size + 2 < W6.heap.size ∨ W7.heap.size ≤ w.heap.size + 2 by omega) (.int .i64 o.tn)
  replace G : Below w.heap.size w (W10.setCell ⟨w.heap.size + 2, 3, none⟩ (.int .i64 o.tn)) := Below.setCell G (show w.heap.size ≤ w.heap.size + 2 by omega) _
  have z11 : (W10.setCell ⟨w.heap.size + 2, 3, none⟩ (.int .i64 o.tn)).heap.size = W10.heap.size := by simp [World.setCell]
  generalize W10.setCell ⟨w.heap.size + 2, 3, none⟩ (.int .i64 o.tn) = W11 at kP kX kR kS rC G z11 ⊢
  replace kP := kP.far (p := ⟨w.heap.size + 2, 4, none⟩) (show w.heap.size ≠ w.heap.size + 2 by omega) (.bool o.st)
  replace kX := kX.far (p := ⟨w.heap.size + 2, 4, none⟩) (show w.heap.size + 1 ≠ w.heap.size + 2 by omega) (.bool o.st)
  replace kS := kS.far (p := ⟨w.heap.size + 2, 4, none⟩) (show w.heap.size + 3 ≠ w.heap.size + 2 by omega) (.bool o.st)
  replace kR : Blk (W11.setCell ⟨w.heap.size + 2, 4, none⟩ (.bool o.st)) (w.heap.size + 2) 34 #[.slice B0 o.ts.length d0, .slice B1 o.ks.length d1, .slice B2 o.fs.length d2, .int .i64 o.tn, .bool o.st] := kR.set_ 4 (.bool o.st)
  replace rC := rC.store (p := ⟨w.heap.size + 2, 4, none⟩) (show w.heap.size + 2 < W6.heap.size ∨ W7.heap.size ≤ w.heap.size + 2 by omega) (.bool o.st)
  replace G : Below w.heap.size w (W11.setCell ⟨w.heap.size + 2, 4, none⟩ (.bool o.st)) := Below.setCell G (show w.heap.size ≤ w.heap.size + 2 by omega) _
  have z12 : (W11.setCell ⟨w.heap.size + 2, 4, none⟩ (.bool o.st)).heap.size = W11.heap.size := by simp [World.setCell]
  generalize W11.setCell ⟨w.heap.size + 2, 4, none⟩ (.bool o.st) = W12 at kP kX kR kS rC G z12 ⊢
  replace kP := kP.far (p := ⟨w.heap.size + 3, 0, none⟩) (show w.heap.size ≠ w.heap.size + 3 by omega) (.int .i64 o.rp)
  replace kX := kX.far (p := ⟨w.heap.size + 3, 0, none⟩) (show w.heap.size + 1 ≠ w.heap.size + 3 by omega) (.int .i64 o.rp)
  replace kR := kR.far (p := ⟨w.heap.size + 3, 0, none⟩) (show w.heap.size + 2 ≠ w.heap.size + 3 by omega) (.int .i64 o.rp)
  replace kS : Blk (W12.setCell ⟨w.heap.size + 3, 0, none⟩ (.int .i64 o.rp)) (w.heap.size + 3) 65 #[.int .i64 o.rp, .int .i64 0] := kS.set_ 0 (.int .i64 o.rp)
  replace rC := rC.store (p := ⟨w.heap.size + 3, 0, none⟩) (show w.heap.size + 3 < W6.heap.size ∨ W7.heap.size ≤ w.heap.size + 3 by omega) (.int .i64 o.rp)
  replace G : Below w.heap.size w (W12.setCell ⟨w.heap.size + 3, 0, none⟩ (.int .i64 o.rp)) := Below.setCell G (show w.heap.size ≤ w.heap.size + 3 by omega) _
  have z13 : (W12.setCell ⟨w.heap.size + 3, 0, none⟩ (.int .i64 o.rp)).heap.size = W12.heap.size := by simp [World.setCell]
  generalize W12.setCell ⟨w.heap.size + 3, 0, none⟩ (.int .i64 o.rp) = W13 at kP kX kR kS rC G z13 ⊢
  replace kP := kP.far (p := ⟨w.heap.size + 3, 1, none⟩) (show w.heap.size ≠ w.heap.size + 3 by omega) (.int .i64 o.ou)
  replace kX := kX.far (p := ⟨w.heap.size + 3, 1, none⟩) (show w.heap.size + 1 ≠ w.heap.size + 3 by omega) (.int .i64 o.ou)
  replace kR := kR.far (p := ⟨w.heap.size + 3, 1, none⟩) (show w.heap.size + 2 ≠ w.heap.size + 3 by omega) (.int .i64 o.ou)
  replace kS : Blk (W13.setCell ⟨w.heap.size + 3, 1, none⟩ (.int .i64 o.ou)) (w.heap.size + 3) 65 #[.int .i64 o.rp, .int .i64 o.ou] := kS.set_ 1 (.int .i64 o.ou)
  replace rC := rC.store (p := ⟨w.heap.size + 3, 1, none⟩) (show w.heap.size + 3 < W6.heap.size ∨ W7.heap.size ≤ w.heap.size + 3 by omega) (.int .i64 o.ou)
  replace G : Below w.heap.size w (W13.setCell ⟨w.heap.size + 3, 1, none⟩ (.int .i64 o.ou)) := Below.setCell G (show w.heap.size ≤ w.heap.size + 3 by omega) _
  have z14 : (W13.setCell ⟨w.heap.size + 3, 1, none⟩ (.int .i64 o.ou)).heap.size = W13.heap.size := by simp [World.setCell]
  generalize W13.setCell ⟨w.heap.size + 3, 1, none⟩ (.int .i64 o.ou) = W14 at kP kX kR kS rC G z14 ⊢
  obtain ⟨tR, qR0, qR1, qR2, qR3, qR4⟩ := kR.q5
  obtain ⟨tS, qS0, qS1⟩ := kS.q2
  exact bodyPost_ret (v := .tuple #[.agg #[.slice B0 o.ts.length d0, .slice B1 o.ks.length d1, .slice B2 o.fs.length d2, .int .i64 o.tn, .bool o.st], .agg #[.int .i64 o.rp, .int .i64 o.ou]]) (by simp [results, Try.results141, go_sem, qR0, qR1, qR2, qR3, qR4, qS0, qS1]) rfl ⟨B0, B1, B2, d0, d1, d2, rfl, rC.wide (by omega) (by omega), G⟩

set_option maxRecDepth 100000 in
set_option maxHeartbeats 4000000 in
theorem leveled_lev (a b c d e : Int) (ts : List T7) (ks : List Int) (fs : List F2) (A0 A1 A2 : Option Addr) (c0 c1 c2 : Nat) (tn : Int) (st : Bool) (wk id lv : Int) (w : World) (ht : ts.length ≤ 1048576) (hk : ks.length ≤ 1048576) (hf : fs.length ≤ 1048576) (h : InPool w ts ks fs A0 A1 A2) (hm : mayB a b c d e ts ks fs tn wk = true) (hh : btw id 0 (ts.length - 1) = true) (hl : levelB a b c d e lv = false) : Calls Try.prog 141 #[.agg #[.int .i64 a, .int .i64 b, .int .i64 c, .int .i64 d, .int .i64 e], .agg #[.slice A0 ts.length c0, .slice A1 ks.length c1, .slice A2 fs.length c2, .int .i64 tn, .bool st], .int .i64 wk, .int .i64 id, .int .i64 lv] w (GaveO w.heap.size w (noO (poolB a b c d e ts ks fs tn) ts ks fs tn st 8)) := by
  have H := hide h
  clear h
  have hNo : Hid (∀ V, InPool V ts ks fs A0 A1 A2 → Calls Try.prog 91 #[.agg #[.int .i64 a, .int .i64 b, .int .i64 c, .int .i64 d, .int .i64 e], .agg #[.slice A0 ts.length c0, .slice A1 ks.length c1, .slice A2 fs.length c2, .int .i64 tn, .bool st], .int .i64 8] V (GaveO V.heap.size V (noO (poolB a b c d e ts ks fs tn) ts ks fs tn st 8))) := hide (fun V hV => l6No_any a b c d e ts ks fs A0 A1 A2 c0 c1 c2 tn st 8 V ht hk hf hV)
  generalize noO (poolB a b c d e ts ks fs tn) ts ks fs tn st 8 = o at hNo ⊢
  have HY := hide (⟨hm, hh, hl, trivial⟩ : _ ∧ _ ∧ _ ∧ True)
  clear hm hh hl
  go_enter Try.func141, Try.ntmps141
  go_wp2_with fail
  have G := Below.refl w.heap.size w
  have kP := Blk.new w 28 #[.int .i64 a, .int .i64 b, .int .i64 c, .int .i64 d, .int .i64 e]
  have hbs := G.size
  replace G := G.alloc (by omega) (.cells #[.int .i64 a, .int .i64 b, .int .i64 c, .int .i64 d, .int .i64 e] 28)
  have z1 : (w.alloc (.cells #[.int .i64 a, .int .i64 b, .int .i64 c, .int .i64 d, .int .i64 e] 28)).heap.size = w.heap.size + 1 := by simp
  clear hbs
  generalize w.alloc (.cells #[.int .i64 a, .int .i64 b, .int .i64 c, .int .i64 d, .int .i64 e] 28) = W1 at kP G z1 ⊢
  have kX : Blk (W1.alloc (.cells #[.slice A0 ts.length c0, .slice A1 ks.length c1, .slice A2 fs.length c2, .int .i64 tn, .bool st] 34)) (w.heap.size + 1) 34 #[.slice A0 ts.length c0, .slice A1 ks.length c1, .slice A2 fs.length c2, .int .i64 tn, .bool st] := by
    have h := Blk.new W1 34 #[.slice A0 ts.length c0, .slice A1 ks.length c1, .slice A2 fs.length c2, .int .i64 tn, .bool st]
    rw [show W1.heap.size = w.heap.size + 1 by omega] at h
    exact h
  replace kP := kP.alloc (.cells #[.slice A0 ts.length c0, .slice A1 ks.length c1, .slice A2 fs.length c2, .int .i64 tn, .bool st] 34)
  have hbs := G.size
  replace G := G.alloc (by omega) (.cells #[.slice A0 ts.length c0, .slice A1 ks.length c1, .slice A2 fs.length c2, .int .i64 tn, .bool st] 34)
  have z2 : (W1.alloc (.cells #[.slice A0 ts.length c0, .slice A1 ks.length c1, .slice A2 fs.length c2, .int .i64 tn, .bool st] 34)).heap.size = W1.heap.size + 1 := by simp
  clear hbs
  generalize W1.alloc (.cells #[.slice A0 ts.length c0, .slice A1 ks.length c1, .slice A2 fs.length c2, .int .i64 tn, .bool st] 34) = W2 at kP kX G z2 ⊢
  have kR : Blk (W2.alloc (.cells #[.slice none 0 0, .slice none 0 0, .slice none 0 0, .int .i64 0, .bool false] 34)) (w.heap.size + 2) 34 #[.slice none 0 0, .slice none 0 0, .slice none 0 0, .int .i64 0, .bool false] := by
    have h := Blk.new W2 34 #[.slice none 0 0, .slice none 0 0, .slice none 0 0, .int .i64 0, .bool false]
    rw [show W2.heap.size = w.heap.size + 2 by omega] at h
    exact h
  replace kP := kP.alloc (.cells #[.slice none 0 0, .slice none 0 0, .slice none 0 0, .int .i64 0, .bool false] 34)
  replace kX := kX.alloc (.cells #[.slice none 0 0, .slice none 0 0, .slice none 0 0, .int .i64 0, .bool false] 34)
  have hbs := G.size
  replace G := G.alloc (by omega) (.cells #[.slice none 0 0, .slice none 0 0, .slice none 0 0, .int .i64 0, .bool false] 34)
  have z3 : (W2.alloc (.cells #[.slice none 0 0, .slice none 0 0, .slice none 0 0, .int .i64 0, .bool false] 34)).heap.size = W2.heap.size + 1 := by simp
  clear hbs
  generalize W2.alloc (.cells #[.slice none 0 0, .slice none 0 0, .slice none 0 0, .int .i64 0, .bool false] 34) = W3 at kP kX kR G z3 ⊢
  have kS : Blk (W3.alloc (.cells #[.int .i64 0, .int .i64 0] 65)) (w.heap.size + 3) 65 #[.int .i64 0, .int .i64 0] := by
    have h := Blk.new W3 65 #[.int .i64 0, .int .i64 0]
    rw [show W3.heap.size = w.heap.size + 3 by omega] at h
    exact h
  replace kP := kP.alloc (.cells #[.int .i64 0, .int .i64 0] 65)
  replace kX := kX.alloc (.cells #[.int .i64 0, .int .i64 0] 65)
  replace kR := kR.alloc (.cells #[.int .i64 0, .int .i64 0] 65)
  have hbs := G.size
  replace G := G.alloc (by omega) (.cells #[.int .i64 0, .int .i64 0] 65)
  have z4 : (W3.alloc (.cells #[.int .i64 0, .int .i64 0] 65)).heap.size = W3.heap.size + 1 := by simp
  clear hbs
  generalize W3.alloc (.cells #[.int .i64 0, .int .i64 0] 65) = W4 at kP kX kR kS G z4 ⊢
  go_call (l6May_v a b c d e ts ks fs A0 A1 A2 c0 c1 c2 tn st wk true HY.out.1 _ ht hk hf (H.out.below G)) as r W5 ⟨rfl, g1⟩
  have hbs := G.size
  replace kP := kP.below g1 kP.lt
  replace kX := kX.below g1 kX.lt
  replace kR := kR.below g1 kR.lt
  replace kS := kS.below g1 kS.lt
  replace G := G.trans (g1.mono (by omega))
  have z5 := g1.size
  clear g1 hbs
  obtain ⟨tP, qP0, fP0, qP1, fP1, qP2, fP2, qP3, fP3, qP4, fP4⟩ := kP.f5
  obtain ⟨tX, qX0, fX0, qX1, fX1, qX2, fX2, qX3, fX3, qX4, fX4⟩ := kX.f5
  obtain ⟨tR, qR0, fR0, qR1, fR1, qR2, fR2, qR3, fR3, qR4, fR4⟩ := kR.f5
  obtain ⟨tS, qS0, fS0, qS1, fS1⟩ := kS.f2
  go_wp2_with fail
  go_call (l5Has_v ts A0 A1 A2 c0 ks.length c1 fs.length c2 tn st id true HY.out.2.1 _ ht) as r W6 ⟨rfl, g1⟩
  clear tP qP0 fP0 qP1 fP1 qP2 fP2 qP3 fP3 qP4 fP4 tX qX0 fX0 qX1 fX1 qX2 fX2 qX3 fX3 qX4 fX4 tR qR0 fR0 qR1 fR1 qR2 fR2 qR3 fR3 qR4 fR4 tS qS0 fS0 qS1 fS1
  have hbs := G.size
  replace kP := kP.below g1 kP.lt
  replace kX := kX.below g1 kX.lt
  replace kR := kR.below g1 kR.lt
  replace kS := kS.below g1 kS.lt
  replace G := G.trans (g1.mono (by omega))
  have z6 := g1.size
  clear g1 hbs
  obtain ⟨tP, qP0, fP0, qP1, fP1, qP2, fP2, qP3, fP3, qP4, fP4⟩ := kP.f5
  obtain ⟨tX, qX0, fX0, qX1, fX1, qX2, fX2, qX3, fX3, qX4, fX4⟩ := kX.f5
  obtain ⟨tR, qR0, fR0, qR1, fR1, qR2, fR2, qR3, fR3, qR4, fR4⟩ := kR.f5
  obtain ⟨tS, qS0, fS0, qS1, fS1⟩ := kS.f2
  go_wp2_with fail
  go_call (sLevelIn_v a b c d e lv false HY.out.2.2.1 _) as r W7 ⟨rfl, g1⟩
  clear tP qP0 fP0 qP1 fP1 qP2 fP2 qP3 fP3 qP4 fP4 tX qX0 fX0 qX1 fX1 qX2 fX2 qX3 fX3 qX4 fX4 tR qR0 fR0 qR1 fR1 qR2 fR2 qR3 fR3 qR4 fR4 tS qS0 fS0 qS1 fS1
  have hbs := G.size
  replace kP := kP.below g1 kP.lt
  replace kX := kX.below g1 kX.lt
  replace kR := kR.below g1 kR.lt
  replace kS := kS.below g1 kS.lt
  replace G := G.trans (g1.mono (by omega))
  have z7 := g1.size
  clear g1 hbs
  obtain ⟨tP, qP0, fP0, qP1, fP1, qP2, fP2, qP3, fP3, qP4, fP4⟩ := kP.f5
  obtain ⟨tX, qX0, fX0, qX1, fX1, qX2, fX2, qX3, fX3, qX4, fX4⟩ := kX.f5
  obtain ⟨tR, qR0, fR0, qR1, fR1, qR2, fR2, qR3, fR3, qR4, fR4⟩ := kR.f5
  obtain ⟨tS, qS0, fS0, qS1, fS1⟩ := kS.f2
  go_wp2_with fail
  go_call (hNo.out _ (H.out.below G)) as r W8 ⟨B0, B1, B2, d0, d1, d2, rfl, own, g1⟩
  clear tP qP0 fP0 qP1 fP1 qP2 fP2 qP3 fP3 qP4 fP4 tX qX0 fX0 qX1 fX1 qX2 fX2 qX3 fX3 qX4 fX4 tR qR0 fR0 qR1 fR1 qR2 fR2 qR3 fR3 qR4 fR4 tS qS0 fS0 qS1 fS1
  have hbs := G.size
  replace kP := kP.below g1 kP.lt
  replace kX := kX.below g1 kX.lt
  replace kR := kR.below g1 kR.lt
  replace kS := kS.below g1 kS.lt
  replace G := G.trans (g1.mono (by omega))
  have z8 := g1.size
  clear g1 hbs
  have rC := own
  clear own
  obtain ⟨tP, qP0, fP0, qP1, fP1, qP2, fP2, qP3, fP3, qP4, fP4⟩ := kP.f5
  obtain ⟨tX, qX0, fX0, qX1, fX1, qX2, fX2, qX3, fX3, qX4, fX4⟩ := kX.f5
  obtain ⟨tR, qR0, fR0, qR1, fR1, qR2, fR2, qR3, fR3, qR4, fR4⟩ := kR.f5
  obtain ⟨tS, qS0, fS0, qS1, fS1⟩ := kS.f2
  go_wp2_with fail
  clear tP qP0 fP0 qP1 fP1 qP2 fP2 qP3 fP3 qP4 fP4 tX qX0 fX0 qX1 fX1 qX2 fX2 qX3 fX3 qX4 fX4 tR qR0 fR0 qR1 fR1 qR2 fR2 qR3 fR3 qR4 fR4 tS qS0 fS0 qS1 fS1
  replace kP := kP.far (p := ⟨w.heap.size + 2, 0, none⟩) (show w.heap.size ≠ w.heap.size + 2 by omega) (.slice B0 o.ts.length d0)
  replace kX := kX.far (p := ⟨w.heap.size + 2, 0, none⟩) (show w.heap.size + 1 ≠ w.heap.size + 2 by omega) (.slice B0 o.ts.length d0)
  replace kS := kS.far (p := ⟨w.heap.size + 2, 0, none⟩) (show w.heap.size + 3 ≠ w.heap.size + 2 by omega) (.slice B0 o.ts.length d0)
  replace kR : Blk (W8.setCell ⟨w.heap.size + 2, 0, none⟩ (.slice B0 o.ts.length d0)) (w.heap.size + 2) 34 #[.slice B0 o.ts.length d0, .slice none 0 0, .slice none 0 0, .int .i64 0, .bool false] := kR.set_ 0 (.slice B0 o.ts.length d0)
  replace rC := rC.store (p := ⟨w.heap.size + 2, 0, none⟩) (show w.heap.size + 2 < W7.heap.size ∨ W8.heap.size ≤ w.heap.size + 2 by omega) (.slice B0 o.ts.length d0)
  replace G : Below w.heap.size w (W8.setCell ⟨w.heap.size + 2, 0, none⟩ (.slice B0 o.ts.length d0)) := Below.setCell G (show w.heap.size ≤ w.heap.size + 2 by omega) _
  have z9 : (W8.setCell ⟨w.heap.size + 2, 0, none⟩ (.slice B0 o.ts.length d0)).heap.size = W8.heap.size := by simp [World.setCell]
  generalize W8.setCell ⟨w.heap.size + 2, 0, none⟩ (.slice B0 o.ts.length d0) = W9 at kP kX kR kS rC G z9 ⊢
  replace kP := kP.far (p := ⟨w.heap.size + 2, 1, none⟩) (show w.heap.size ≠ w.heap.size + 2 by omega) (.slice B1 o.ks.length d1)
  replace kX := kX.far (p := ⟨w.heap.size + 2, 1, none⟩) (show w.heap.size + 1 ≠ w.heap.size + 2 by omega) (.slice B1 o.ks.length d1)
  replace kS := kS.far (p := ⟨w.heap.size + 2, 1, none⟩) (show w.heap.size + 3 ≠ w.heap.size + 2 by omega) (.slice B1 o.ks.length d1)
  replace kR : Blk (W9.setCell ⟨w.heap.size + 2, 1, none⟩ (.slice B1 o.ks.length d1)) (w.heap.size + 2) 34 #[.slice B0 o.ts.length d0, .slice B1 o.ks.length d1, .slice none 0 0, .int .i64 0, .bool false] := kR.set_ 1 (.slice B1 o.ks.length d1)
  replace rC := rC.store (p := ⟨w.heap.size + 2, 1, none⟩) (show w.heap.size + 2 < W7.heap.size ∨ W8.heap.size ≤ w.heap.size + 2 by omega) (.slice B1 o.ks.length d1)
  replace G : Below w.heap.size w (W9.setCell ⟨w.heap.size + 2, 1, none⟩ (.slice B1 o.ks.length d1)) := Below.setCell G (show w.heap.size ≤ w.heap.size + 2 by omega) _
  have z10 : (W9.setCell ⟨w.heap.size + 2, 1, none⟩ (.slice B1 o.ks.length d1)).heap.size = W9.heap.size := by simp [World.setCell]
  generalize W9.setCell ⟨w.heap.size + 2, 1, none⟩ (.slice B1 o.ks.length d1) = W10 at kP kX kR kS rC G z10 ⊢
  replace kP := kP.far (p := ⟨w.heap.size + 2, 2, none⟩) (show w.heap.size ≠ w.heap.size + 2 by omega) (.slice B2 o.fs.length d2)
  replace kX := kX.far (p := ⟨w.heap.size + 2, 2, none⟩) (show w.heap.size + 1 ≠ w.heap.size + 2 by omega) (.slice B2 o.fs.length d2)
  replace kS := kS.far (p := ⟨w.heap.size + 2, 2, none⟩) (show w.heap.size + 3 ≠ w.heap.size + 2 by omega) (.slice B2 o.fs.length d2)
  replace kR : Blk (W10.setCell ⟨w.heap.size + 2, 2, none⟩ (.slice B2 o.fs.length d2)) (w.heap.size + 2) 34 #[.slice B0 o.ts.length d0, .slice B1 o.ks.length d1, .slice B2 o.fs.length d2, .int .i64 0, .bool false] := kR.set_ 2 (.slice B2 o.fs.length d2)
  replace rC := rC.store (p := ⟨w.heap.size + 2, 2, none⟩) (show w.heap.size + 2 < W7.heap.size ∨ W8.heap.size ≤ w.heap.size + 2 by omega) (.slice B2 o.fs.length d2)
  replace G : Below w.heap.size w (W10.setCell ⟨w.heap.size + 2, 2, none⟩ (.slice B2 o.fs.length d2)) := Below.setCell G (show w.heap.size ≤ w.heap.size + 2 by omega) _
  have z11 : (W10.setCell ⟨w.heap.size + 2, 2, none⟩ (.slice B2 o.fs.length d2)).heap.size = W10.heap.size := by simp [World.setCell]
  generalize W10.setCell ⟨w.heap.size + 2, 2, none⟩ (.slice B2 o.fs.length d2) = W11 at kP kX kR kS rC G z11 ⊢
  replace kP := kP.far (p := ⟨w.heap.size + 2, 3, none⟩) (show w.heap.size ≠ w.heap.size + 2 by omega) (.int .i64 o.tn)
  replace kX := kX.far (p := ⟨w.heap.size + 2, 3, none⟩) (show w.heap.size + 1 ≠ w.heap.size + 2 by omega) (.int .i64 o.tn)
  replace kS := kS.far (p := ⟨w.heap.size + 2, 3, none⟩) (show w.heap.size + 3 ≠ w.heap.size + 2 by omega) (.int .i64 o.tn)
  replace kR : Blk (W11.setCell ⟨w.heap.size + 2, 3, none⟩ (.int .i64 o.tn)) (w.heap.size + 2) 34 #[.slice B0 o.ts.length d0, .slice B1 o.ks.length d1, .slice B2 o.fs.length d2, .int .i64 o.tn, .bool false] := kR.set_ 3 (.int .i64 o.tn)
  replace rC := rC.store (p := ⟨w.heap.size + 2, 3, none⟩) (show w.heap.size + 2 < W7.heap.size ∨ W8.heap.size ≤ w.heap.size + 2 by omega) (.int .i64 o.tn)
  replace G : Below w.heap.size w (W11.setCell ⟨w.heap.size + 2, 3, none⟩ (.int .i64 o.tn)) := Below.setCell G (show w.heap.size ≤ w.heap.size + 2 by omega) _
  have z12 : (W11.setCell ⟨w.heap.size + 2, 3, none⟩ (.int .i64 o.tn)).heap.size = W11.heap.size := by simp [World.setCell]
  generalize W11.setCell ⟨w.heap.size + 2, 3, none⟩ (.int .i64 o.tn) = W12 at kP kX kR kS rC G z12 ⊢
  replace kP := kP.far (p := ⟨w.heap.size + 2, 4, none⟩) (show w.heap.size ≠ w.heap.size + 2 by omega) (.bool o.st)
  replace kX := kX.far (p := ⟨w.heap.size + 2, 4, none⟩) (show w.heap.size + 1 ≠ w.heap.size + 2 by omega) (.bool o.st)
  replace kS := kS.far (p := ⟨w.heap.size + 2, 4, none⟩) (show w.heap.size + 3 ≠ w.heap.size + 2 by omega) (.bool o.st)
  replace kR : Blk (W12.setCell ⟨w.heap.size + 2, 4, none⟩ (.bool o.st)) (w.heap.size + 2) 34 #[.slice B0 o.ts.length d0, .slice B1 o.ks.length d1, .slice B2 o.fs.length d2, .int .i64 o.tn, .bool o.st] := kR.set_ 4 (.bool o.st)
  replace rC := rC.store (p := ⟨w.heap.size + 2, 4, none⟩) (show w.heap.size + 2 < W7.heap.size ∨ W8.heap.size ≤ w.heap.size + 2 by omega) (.bool o.st)
  replace G : Below w.heap.size w (W12.setCell ⟨w.heap.size + 2, 4, none⟩ (.bool o.st)) := Below.setCell G (show w.heap.size ≤ w.heap.size + 2 by omega) _
  have z13 : (W12.setCell ⟨w.heap.size + 2, 4, none⟩ (.bool o.st)).heap.size = W12.heap.size := by simp [World.setCell]
  generalize W12.setCell ⟨w.heap.size + 2, 4, none⟩ (.bool o.st) = W13 at kP kX kR kS rC G z13 ⊢
  replace kP := kP.far (p := ⟨w.heap.size + 3, 0, none⟩) (show w.heap.size ≠ w.heap.size + 3 by omega) (.int .i64 o.rp)
  replace kX := kX.far (p := ⟨w.heap.size + 3, 0, none⟩) (show w.heap.size + 1 ≠ w.heap.size + 3 by omega) (.int .i64 o.rp)
  replace kR := kR.far (p := ⟨w.heap.size + 3, 0, none⟩) (show w.heap.size + 2 ≠ w.heap.size + 3 by omega) (.int .i64 o.rp)
  replace kS : Blk (W13.setCell ⟨w.heap.size + 3, 0, none⟩ (.int .i64 o.rp)) (w.heap.size + 3) 65 #[.int .i64 o.rp, .int .i64 0] := kS.set_ 0 (.int .i64 o.rp)
  replace rC := rC.store (p := ⟨w.heap.size + 3, 0, none⟩) (show w.heap.size + 3 < W7.heap.size ∨ W8.heap.size ≤ w.heap.size + 3 by omega) (.int .i64 o.rp)
  replace G : Below w.heap.size w (W13.setCell ⟨w.heap.size + 3, 0, none⟩ (.int .i64 o.rp)) := Below.setCell G (show w.heap.size ≤ w.heap.size + 3 by omega) _
  have z14 : (W13.setCell ⟨w.heap.size + 3, 0, none⟩ (.int .i64 o.rp)).heap.size = W13.heap.size := by simp [World.setCell]
  generalize W13.setCell ⟨w.heap.size + 3, 0, none⟩ (.int .i64 o.rp) = W14 at kP kX kR kS rC G z14 ⊢
  replace kP := kP.far (p := ⟨w.heap.size + 3, 1, none⟩) (show w.heap.size ≠ w.heap.size + 3 by omega) (.int .i64 o.ou)
  replace kX := kX.far (p := ⟨w.heap.size + 3, 1, none⟩) (show w.heap.size + 1 ≠ w.heap.size + 3 by omega) (.int .i64 o.ou)
  replace kR := kR.far (p := ⟨w.heap.size + 3, 1, none⟩) (show w.heap.size + 2 ≠ w.heap.size + 3 by omega) (.int .i64 o.ou)
  replace kS : Blk (W14.setCell ⟨w.heap.size + 3, 1, none⟩ (.int .i64 o.ou)) (w.heap.size + 3) 65 #[.int .i64 o.rp, .int .i64 o.ou] := kS.set_ 1 (.int .i64 o.ou)
  replace rC := rC.store (p := ⟨w.heap.size + 3, 1, none⟩) (show w.heap.size + 3 < W7.heap.size ∨ W8.heap.size ≤ w.heap.size + 3 by omega) (.int .i64 o.ou)
  replace G : Below w.heap.size w (W14.setCell ⟨w.heap.size + 3, 1, none⟩ (.int .i64 o.ou)) := Below.setCell G (show w.heap.size ≤ w.heap.size + 3 by omega) _
  have z15 : (W14.setCell ⟨w.heap.size + 3, 1, none⟩ (.int .i64 o.ou)).heap.size = W14.heap.size := by simp [World.setCell]
  generalize W14.setCell ⟨w.heap.size + 3, 1, none⟩ (.int .i64 o.ou) = W15 at kP kX kR kS rC G z15 ⊢
  obtain ⟨tR, qR0, qR1, qR2, qR3, qR4⟩ := kR.q5
  obtain ⟨tS, qS0, qS1⟩ := kS.q2
  exact bodyPost_ret (v := .tuple #[.agg #[.slice B0 o.ts.length d0, .slice B1 o.ks.length d1, .slice B2 o.fs.length d2, .int .i64 o.tn, .bool o.st], .agg #[.int .i64 o.rp, .int .i64 o.ou]]) (by simp [results, Try.results141, go_sem, qR0, qR1, qR2, qR3, qR4, qS0, qS1]) rfl ⟨B0, B1, B2, d0, d1, d2, rfl, rC.wide (by omega) (by omega), G⟩

set_option maxRecDepth 100000 in
set_option maxHeartbeats 4000000 in
theorem leveled_gone (a b c d e : Int) (ts : List T7) (ks : List Int) (fs : List F2) (A0 A1 A2 : Option Addr) (c0 c1 c2 : Nat) (tn : Int) (st : Bool) (wk id lv : Int) (w : World) (ht : ts.length ≤ 1048576) (hk : ks.length ≤ 1048576) (hf : fs.length ≤ 1048576) (h : InPool w ts ks fs A0 A1 A2) (k : Nat) (s l o1 wt on v t : Int) (hid : id = k) (hts : ts[k]? = some ⟨s, l, o1, wt, on, v, t⟩) (hm : mayB a b c d e ts ks fs tn wk = true) (hh : btw id 0 (ts.length - 1) = true) (hl : levelB a b c d e lv = true) (ho : openB s = false) : Calls Try.prog 141 #[.agg #[.int .i64 a, .int .i64 b, .int .i64 c, .int .i64 d, .int .i64 e], .agg #[.slice A0 ts.length c0, .slice A1 ks.length c1, .slice A2 fs.length c2, .int .i64 tn, .bool st], .int .i64 wk, .int .i64 id, .int .i64 lv] w (GaveO w.heap.size w (noO (poolB a b c d e ts ks fs tn) ts ks fs tn st 5)) := by
  have H := hide h
  clear h
  have hNo : Hid (∀ V, InPool V ts ks fs A0 A1 A2 → Calls Try.prog 91 #[.agg #[.int .i64 a, .int .i64 b, .int .i64 c, .int .i64 d, .int .i64 e], .agg #[.slice A0 ts.length c0, .slice A1 ks.length c1, .slice A2 fs.length c2, .int .i64 tn, .bool st], .int .i64 5] V (GaveO V.heap.size V (noO (poolB a b c d e ts ks fs tn) ts ks fs tn st 5))) := hide (fun V hV => l6No_any a b c d e ts ks fs A0 A1 A2 c0 c1 c2 tn st 5 V ht hk hf hV)
  generalize noO (poolB a b c d e ts ks fs tn) ts ks fs tn st 5 = o at hNo ⊢
  subst hid
  have hkl : k < ts.length := by
    rcases Nat.lt_or_ge k ts.length with h1 | h1
    · exact h1
    · rw [List.getElem?_eq_none h1] at hts; cases hts
  obtain ⟨b', off, x0, x1, x2, x3, x4, x5, x6, rfl, _, he, hb', y0, y1, y2, y3, y4, y5, y6⟩ := H.out.1.ts_at hkl
  rw [hts] at he
  injection he with he
  injection he with u0 u1 u2 u3 u4 u5 u6
  subst u0 u1 u2 u3 u4 u5 u6
  have HY := hide (⟨hm, hh, hl, hts⟩ : _ ∧ _ ∧ _ ∧ _)
  clear hm hh hl hts
  have HO := hide ho
  clear ho
  go_enter Try.func141, Try.ntmps141
  go_wp2_with fail
  have G := Below.refl w.heap.size w
  have kP := Blk.new w 28 #[.int .i64 a, .int .i64 b, .int .i64 c, .int .i64 d, .int .i64 e]
  have hbs := G.size
  replace G := G.alloc (by omega) (.cells #[.int .i64 a, .int .i64 b, .int .i64 c, .int .i64 d, .int .i64 e] 28)
  have z1 : (w.alloc (.cells #[.int .i64 a, .int .i64 b, .int .i64 c, .int .i64 d, .int .i64 e] 28)).heap.size = w.heap.size + 1 := by simp
  clear hbs
  generalize w.alloc (.cells #[.int .i64 a, .int .i64 b, .int .i64 c, .int .i64 d, .int .i64 e] 28) = W1 at kP G z1 ⊢
  have kX : Blk (W1.alloc (.cells #[.slice (some ⟨b', off, none⟩) ts.length c0, .slice A1 ks.length c1, .slice A2 fs.length c2, .int .i64 tn, .bool st] 34)) (w.heap.size + 1) 34 #[.slice (some ⟨b', off, none⟩) ts.length c0, .slice A1 ks.length c1, .slice A2 fs.length c2, .int .i64 tn, .bool st] := by
    have h := Blk.new W1 34 #[.slice (some ⟨b', off, none⟩) ts.length c0, .slice A1 ks.length c1, .slice A2 fs.length c2, .int .i64 tn, .bool st]
    rw [show W1.heap.size = w.heap.size + 1 by omega] at h
    exact h
  replace kP := kP.alloc (.cells #[.slice (some ⟨b', off, none⟩) ts.length c0, .slice A1 ks.length c1, .slice A2 fs.length c2, .int .i64 tn, .bool st] 34)
  have hbs := G.size
  replace G := G.alloc (by omega) (.cells #[.slice (some ⟨b', off, none⟩) ts.length c0, .slice A1 ks.length c1, .slice A2 fs.length c2, .int .i64 tn, .bool st] 34)
  have z2 : (W1.alloc (.cells #[.slice (some ⟨b', off, none⟩) ts.length c0, .slice A1 ks.length c1, .slice A2 fs.length c2, .int .i64 tn, .bool st] 34)).heap.size = W1.heap.size + 1 := by simp
  clear hbs
  generalize W1.alloc (.cells #[.slice (some ⟨b', off, none⟩) ts.length c0, .slice A1 ks.length c1, .slice A2 fs.length c2, .int .i64 tn, .bool st] 34) = W2 at kP kX G z2 ⊢
  have kR : Blk (W2.alloc (.cells #[.slice none 0 0, .slice none 0 0, .slice none 0 0, .int .i64 0, .bool false] 34)) (w.heap.size + 2) 34 #[.slice none 0 0, .slice none 0 0, .slice none 0 0, .int .i64 0, .bool false] := by
    have h := Blk.new W2 34 #[.slice none 0 0, .slice none 0 0, .slice none 0 0, .int .i64 0, .bool false]
    rw [show W2.heap.size = w.heap.size + 2 by omega] at h
    exact h
  replace kP := kP.alloc (.cells #[.slice none 0 0, .slice none 0 0, .slice none 0 0, .int .i64 0, .bool false] 34)
  replace kX := kX.alloc (.cells #[.slice none 0 0, .slice none 0 0, .slice none 0 0, .int .i64 0, .bool false] 34)
  have hbs := G.size
  replace G := G.alloc (by omega) (.cells #[.slice none 0 0, .slice none 0 0, .slice none 0 0, .int .i64 0, .bool false] 34)
  have z3 : (W2.alloc (.cells #[.slice none 0 0, .slice none 0 0, .slice none 0 0, .int .i64 0, .bool false] 34)).heap.size = W2.heap.size + 1 := by simp
  clear hbs
  generalize W2.alloc (.cells #[.slice none 0 0, .slice none 0 0, .slice none 0 0, .int .i64 0, .bool false] 34) = W3 at kP kX kR G z3 ⊢
  have kS : Blk (W3.alloc (.cells #[.int .i64 0, .int .i64 0] 65)) (w.heap.size + 3) 65 #[.int .i64 0, .int .i64 0] := by
    have h := Blk.new W3 65 #[.int .i64 0, .int .i64 0]
    rw [show W3.heap.size = w.heap.size + 3 by omega] at h
    exact h
  replace kP := kP.alloc (.cells #[.int .i64 0, .int .i64 0] 65)
  replace kX := kX.alloc (.cells #[.int .i64 0, .int .i64 0] 65)
  replace kR := kR.alloc (.cells #[.int .i64 0, .int .i64 0] 65)
  have hbs := G.size
  replace G := G.alloc (by omega) (.cells #[.int .i64 0, .int .i64 0] 65)
  have z4 : (W3.alloc (.cells #[.int .i64 0, .int .i64 0] 65)).heap.size = W3.heap.size + 1 := by simp
  clear hbs
  generalize W3.alloc (.cells #[.int .i64 0, .int .i64 0] 65) = W4 at kP kX kR kS G z4 ⊢
  go_call (l6May_v a b c d e ts ks fs (some ⟨b', off, none⟩) A1 A2 c0 c1 c2 tn st wk true HY.out.1 _ ht hk hf (H.out.below G)) as r W5 ⟨rfl, g1⟩
  have hbs := G.size
  replace kP := kP.below g1 kP.lt
  replace kX := kX.below g1 kX.lt
  replace kR := kR.below g1 kR.lt
  replace kS := kS.below g1 kS.lt
  replace G := G.trans (g1.mono (by omega))
  have z5 := g1.size
  clear g1 hbs
  obtain ⟨tP, qP0, fP0, qP1, fP1, qP2, fP2, qP3, fP3, qP4, fP4⟩ := kP.f5
  obtain ⟨tX, qX0, fX0, qX1, fX1, qX2, fX2, qX3, fX3, qX4, fX4⟩ := kX.f5
  obtain ⟨tR, qR0, fR0, qR1, fR1, qR2, fR2, qR3, fR3, qR4, fR4⟩ := kR.f5
  obtain ⟨tS, qS0, fS0, qS1, fS1⟩ := kS.f2
  go_wp2_with fail
  go_call (l5Has_v ts (some ⟨b', off, none⟩) A1 A2 c0 ks.length c1 fs.length c2 tn st k true HY.out.2.1 _ ht) as r W6 ⟨rfl, g1⟩
  clear tP qP0 fP0 qP1 fP1 qP2 fP2 qP3 fP3 qP4 fP4 tX qX0 fX0 qX1 fX1 qX2 fX2 qX3 fX3 qX4 fX4 tR qR0 fR0 qR1 fR1 qR2 fR2 qR3 fR3 qR4 fR4 tS qS0 fS0 qS1 fS1
  have hbs := G.size
  replace kP := kP.below g1 kP.lt
  replace kX := kX.below g1 kX.lt
  replace kR := kR.below g1 kR.lt
  replace kS := kS.below g1 kS.lt
  replace G := G.trans (g1.mono (by omega))
  have z6 := g1.size
  clear g1 hbs
  obtain ⟨tP, qP0, fP0, qP1, fP1, qP2, fP2, qP3, fP3, qP4, fP4⟩ := kP.f5
  obtain ⟨tX, qX0, fX0, qX1, fX1, qX2, fX2, qX3, fX3, qX4, fX4⟩ := kX.f5
  obtain ⟨tR, qR0, fR0, qR1, fR1, qR2, fR2, qR3, fR3, qR4, fR4⟩ := kR.f5
  obtain ⟨tS, qS0, fS0, qS1, fS1⟩ := kS.f2
  go_wp2_with fail
  go_call (sLevelIn_v a b c d e lv true HY.out.2.2.1 _) as r W7 ⟨rfl, g1⟩
  clear tP qP0 fP0 qP1 fP1 qP2 fP2 qP3 fP3 qP4 fP4 tX qX0 fX0 qX1 fX1 qX2 fX2 qX3 fX3 qX4 fX4 tR qR0 fR0 qR1 fR1 qR2 fR2 qR3 fR3 qR4 fR4 tS qS0 fS0 qS1 fS1
  have hbs := G.size
  replace kP := kP.below g1 kP.lt
  replace kX := kX.below g1 kX.lt
  replace kR := kR.below g1 kR.lt
  replace kS := kS.below g1 kS.lt
  replace G := G.trans (g1.mono (by omega))
  have z7 := g1.size
  clear g1 hbs
  obtain ⟨tP, qP0, fP0, qP1, fP1, qP2, fP2, qP3, fP3, qP4, fP4⟩ := kP.f5
  obtain ⟨tX, qX0, fX0, qX1, fX1, qX2, fX2, qX3, fX3, qX4, fX4⟩ := kX.f5
  obtain ⟨tR, qR0, fR0, qR1, fR1, qR2, fR2, qR3, fR3, qR4, fR4⟩ := kR.f5
  obtain ⟨tS, qS0, fS0, qS1, fS1⟩ := kS.f2
  have ye0 : W7.cell? ⟨b', off + k * 7, none⟩ = some (.int .i64 s) := ((bcell G).1 _ _ hb').trans y0
  have ye1 : W7.cell? ⟨b', off + k * 7 + 1, none⟩ = some (.int .i64 l) := ((bcell G).1 _ _ hb').trans y1
  have ye2 : W7.cell? ⟨b', off + k * 7 + 2, none⟩ = some (.int .i64 o1) := ((bcell G).1 _ _ hb').trans y2
  have ye3 : W7.cell? ⟨b', off + k * 7 + 3, none⟩ = some (.int .i64 wt) := ((bcell G).1 _ _ hb').trans y3
  have ye4 : W7.cell? ⟨b', off + k * 7 + 4, none⟩ = some (.int .i64 on) := ((bcell G).1 _ _ hb').trans y4
  have ye5 : W7.cell? ⟨b', off + k * 7 + 5, none⟩ = some (.int .i64 v) := ((bcell G).1 _ _ hb').trans y5
  have ye6 : W7.cell? ⟨b', off + k * 7 + 6, none⟩ = some (.int .i64 t) := ((bcell G).1 _ _ hb').trans y6
  go_wp2_with fail
  go_call (sIsOpen_any s l o1 wt on v t _) as r W8 ⟨rfl, g1⟩
  clear tP qP0 fP0 qP1 fP1 qP2 fP2 qP3 fP3 qP4 fP4 tX qX0 fX0 qX1 fX1 qX2 fX2 qX3 fX3 qX4 fX4 tR qR0 fR0 qR1 fR1 qR2 fR2 qR3 fR3 qR4 fR4 tS qS0 fS0 qS1 fS1
  have hbs := G.size
  replace kP := kP.below g1 kP.lt
  replace kX := kX.below g1 kX.lt
  replace kR := kR.below g1 kR.lt
  replace kS := kS.below g1 kS.lt
  replace G := G.trans (g1.mono (by omega))
  have z8 := g1.size
  clear g1 hbs
  clear ye0 ye1 ye2 ye3 ye4 ye5 ye6
  rw [HO.out]
  obtain ⟨tP, qP0, fP0, qP1, fP1, qP2, fP2, qP3, fP3, qP4, fP4⟩ := kP.f5
  obtain ⟨tX, qX0, fX0, qX1, fX1, qX2, fX2, qX3, fX3, qX4, fX4⟩ := kX.f5
  obtain ⟨tR, qR0, fR0, qR1, fR1, qR2, fR2, qR3, fR3, qR4, fR4⟩ := kR.f5
  obtain ⟨tS, qS0, fS0, qS1, fS1⟩ := kS.f2
  go_wp2_with fail
  go_call (hNo.out _ (H.out.below G)) as r W9 ⟨B0, B1, B2, d0, d1, d2, rfl, own, g1⟩
  clear tP qP0 fP0 qP1 fP1 qP2 fP2 qP3 fP3 qP4 fP4 tX qX0 fX0 qX1 fX1 qX2 fX2 qX3 fX3 qX4 fX4 tR qR0 fR0 qR1 fR1 qR2 fR2 qR3 fR3 qR4 fR4 tS qS0 fS0 qS1 fS1
  have hbs := G.size
  replace kP := kP.below g1 kP.lt
  replace kX := kX.below g1 kX.lt
  replace kR := kR.below g1 kR.lt
  replace kS := kS.below g1 kS.lt
  replace G := G.trans (g1.mono (by omega))
  have z9 := g1.size
  clear g1 hbs
  have rC := own
  clear own
  obtain ⟨tP, qP0, fP0, qP1, fP1, qP2, fP2, qP3, fP3, qP4, fP4⟩ := kP.f5
  obtain ⟨tX, qX0, fX0, qX1, fX1, qX2, fX2, qX3, fX3, qX4, fX4⟩ := kX.f5
  obtain ⟨tR, qR0, fR0, qR1, fR1, qR2, fR2, qR3, fR3, qR4, fR4⟩ := kR.f5
  obtain ⟨tS, qS0, fS0, qS1, fS1⟩ := kS.f2
  go_wp2_with fail
  clear tP qP0 fP0 qP1 fP1 qP2 fP2 qP3 fP3 qP4 fP4 tX qX0 fX0 qX1 fX1 qX2 fX2 qX3 fX3 qX4 fX4 tR qR0 fR0 qR1 fR1 qR2 fR2 qR3 fR3 qR4 fR4 tS qS0 fS0 qS1 fS1
  replace kP := kP.far (p := ⟨w.heap.size + 2, 0, none⟩) (show w.heap.size ≠ w.heap.size + 2 by omega) (.slice B0 o.ts.length d0)
  replace kX := kX.far (p := ⟨w.heap.size + 2, 0, none⟩) (show w.heap.size + 1 ≠ w.heap.size + 2 by omega) (.slice B0 o.ts.length d0)
  replace kS := kS.far (p := ⟨w.heap.size + 2, 0, none⟩) (show w.heap.size + 3 ≠ w.heap.size + 2 by omega) (.slice B0 o.ts.length d0)
  replace kR : Blk (W9.setCell ⟨w.heap.size + 2, 0, none⟩ (.slice B0 o.ts.length d0)) (w.heap.size + 2) 34 #[.slice B0 o.ts.length d0, .slice none 0 0, .slice none 0 0, .int .i64 0, .bool false] := kR.set_ 0 (.slice B0 o.ts.length d0)
  replace rC := rC.store (p := ⟨w.heap.size + 2, 0, none⟩) (show w.heap.size + 2 < W8.heap.size ∨ W9.heap.size ≤ w.heap.size + 2 by omega) (.slice B0 o.ts.length d0)
  replace G : Below w.heap.size w (W9.setCell ⟨w.heap.size + 2, 0, none⟩ (.slice B0 o.ts.length d0)) := Below.setCell G (show w.heap.size ≤ w.heap.size + 2 by omega) _
  have z10 : (W9.setCell ⟨w.heap.size + 2, 0, none⟩ (.slice B0 o.ts.length d0)).heap.size = W9.heap.size := by simp [World.setCell]
  generalize W9.setCell ⟨w.heap.size + 2, 0, none⟩ (.slice B0 o.ts.length d0) = W10 at kP kX kR kS rC G z10 ⊢
  replace kP := kP.far (p := ⟨w.heap.size + 2, 1, none⟩) (show w.heap.size ≠ w.heap.size + 2 by omega) (.slice B1 o.ks.length d1)
  replace kX := kX.far (p := ⟨w.heap.size + 2, 1, none⟩) (show w.heap.size + 1 ≠ w.heap.size + 2 by omega) (.slice B1 o.ks.length d1)
  replace kS := kS.far (p := ⟨w.heap.size + 2, 1, none⟩) (show w.heap.size + 3 ≠ w.heap.size + 2 by omega) (.slice B1 o.ks.length d1)
  replace kR : Blk (W10.setCell ⟨w.heap.size + 2, 1, none⟩ (.slice B1 o.ks.length d1)) (w.heap.size + 2) 34 #[.slice B0 o.ts.length d0, .slice B1 o.ks.length d1, .slice none 0 0, .int .i64 0, .bool false] := kR.set_ 1 (.slice B1 o.ks.length d1)
  replace rC := rC.store (p := ⟨w.heap.size + 2, 1, none⟩) (show w.heap.size + 2 < W8.heap.size ∨ W9.heap.size ≤ w.heap.size + 2 by omega) (.slice B1 o.ks.length d1)
  replace G : Below w.heap.size w (W10.setCell ⟨w.heap.size + 2, 1, none⟩ (.slice B1 o.ks.length d1)) := Below.setCell G (show w.heap.size ≤ w.heap.size + 2 by omega) _
  have z11 : (W10.setCell ⟨w.heap.size + 2, 1, none⟩ (.slice B1 o.ks.length d1)).heap.size = W10.heap.size := by simp [World.setCell]
  generalize W10.setCell ⟨w.heap.size + 2, 1, none⟩ (.slice B1 o.ks.length d1) = W11 at kP kX kR kS rC G z11 ⊢
  replace kP := kP.far (p := ⟨w.heap.size + 2, 2, none⟩) (show w.heap.size ≠ w.heap.size + 2 by omega) (.slice B2 o.fs.length d2)
  replace kX := kX.far (p := ⟨w.heap.size + 2, 2, none⟩) (show w.heap.size + 1 ≠ w.heap.size + 2 by omega) (.slice B2 o.fs.length d2)
  replace kS := kS.far (p := ⟨w.heap.size + 2, 2, none⟩) (show w.heap.size + 3 ≠ w.heap.size + 2 by omega) (.slice B2 o.fs.length d2)
  replace kR : Blk (W11.setCell ⟨w.heap.size + 2, 2, none⟩ (.slice B2 o.fs.length d2)) (w.heap.size + 2) 34 #[.slice B0 o.ts.length d0, .slice B1 o.ks.length d1, .slice B2 o.fs.length d2, .int .i64 0, .bool false] := kR.set_ 2 (.slice B2 o.fs.length d2)
  replace rC := rC.store (p := ⟨w.heap.size + 2, 2, none⟩) (show w.heap.size + 2 < W8.heap.size ∨ W9.heap.size ≤ w.heap.size + 2 by omega) (.slice B2 o.fs.length d2)
  replace G : Below w.heap.size w (W11.setCell ⟨w.heap.size + 2, 2, none⟩ (.slice B2 o.fs.length d2)) := Below.setCell G (show w.heap.size ≤ w.heap.size + 2 by omega) _
  have z12 : (W11.setCell ⟨w.heap.size + 2, 2, none⟩ (.slice B2 o.fs.length d2)).heap.size = W11.heap.size := by simp [World.setCell]
  generalize W11.setCell ⟨w.heap.size + 2, 2, none⟩ (.slice B2 o.fs.length d2) = W12 at kP kX kR kS rC G z12 ⊢
  replace kP := kP.far (p := ⟨w.heap.size + 2, 3, none⟩) (show w.heap.size ≠ w.heap.size + 2 by omega) (.int .i64 o.tn)
  replace kX := kX.far (p := ⟨w.heap.size + 2, 3, none⟩) (show w.heap.size + 1 ≠ w.heap.size + 2 by omega) (.int .i64 o.tn)
  replace kS := kS.far (p := ⟨w.heap.size + 2, 3, none⟩) (show w.heap.size + 3 ≠ w.heap.size + 2 by omega) (.int .i64 o.tn)
  replace kR : Blk (W12.setCell ⟨w.heap.size + 2, 3, none⟩ (.int .i64 o.tn)) (w.heap.size + 2) 34 #[.slice B0 o.ts.length d0, .slice B1 o.ks.length d1, .slice B2 o.fs.length d2, .int .i64 o.tn, .bool false] := kR.set_ 3 (.int .i64 o.tn)
  replace rC := rC.store (p := ⟨w.heap.size + 2, 3, none⟩) (show w.heap.size + 2 < W8.heap.size ∨ W9.heap.size ≤ w.heap.size + 2 by omega) (.int .i64 o.tn)
  replace G : Below w.heap.size w (W12.setCell ⟨w.heap.size + 2, 3, none⟩ (.int .i64 o.tn)) := Below.setCell G (show w.heap.size ≤ w.heap.size + 2 by omega) _
  have z13 : (W12.setCell ⟨w.heap.size + 2, 3, none⟩ (.int .i64 o.tn)).heap.size = W12.heap.size := by simp [World.setCell]
  generalize W12.setCell ⟨w.heap.size + 2, 3, none⟩ (.int .i64 o.tn) = W13 at kP kX kR kS rC G z13 ⊢
  replace kP := kP.far (p := ⟨w.heap.size + 2, 4, none⟩) (show w.heap.size ≠ w.heap.size + 2 by omega) (.bool o.st)
  replace kX := kX.far (p := ⟨w.heap.size + 2, 4, none⟩) (show w.heap.size + 1 ≠ w.heap.size + 2 by omega) (.bool o.st)
  replace kS := kS.far (p := ⟨w.heap.size + 2, 4, none⟩) (show w.heap.size + 3 ≠ w.heap.size + 2 by omega) (.bool o.st)
  replace kR : Blk (W13.setCell ⟨w.heap.size + 2, 4, none⟩ (.bool o.st)) (w.heap.size + 2) 34 #[.slice B0 o.ts.length d0, .slice B1 o.ks.length d1, .slice B2 o.fs.length d2, .int .i64 o.tn, .bool o.st] := kR.set_ 4 (.bool o.st)
  replace rC := rC.store (p := ⟨w.heap.size + 2, 4, none⟩) (show w.heap.size + 2 < W8.heap.size ∨ W9.heap.size ≤ w.heap.size + 2 by omega) (.bool o.st)
  replace G : Below w.heap.size w (W13.setCell ⟨w.heap.size + 2, 4, none⟩ (.bool o.st)) := Below.setCell G (show w.heap.size ≤ w.heap.size + 2 by omega) _
  have z14 : (W13.setCell ⟨w.heap.size + 2, 4, none⟩ (.bool o.st)).heap.size = W13.heap.size := by simp [World.setCell]
  generalize W13.setCell ⟨w.heap.size + 2, 4, none⟩ (.bool o.st) = W14 at kP kX kR kS rC G z14 ⊢
  replace kP := kP.far (p := ⟨w.heap.size + 3, 0, none⟩) (show w.heap.size ≠ w.heap.size + 3 by omega) (.int .i64 o.rp)
  replace kX := kX.far (p := ⟨w.heap.size + 3, 0, none⟩) (show w.heap.size + 1 ≠ w.heap.size + 3 by omega) (.int .i64 o.rp)
  replace kR := kR.far (p := ⟨w.heap.size + 3, 0, none⟩) (show w.heap.size + 2 ≠ w.heap.size + 3 by omega) (.int .i64 o.rp)
  replace kS : Blk (W14.setCell ⟨w.heap.size + 3, 0, none⟩ (.int .i64 o.rp)) (w.heap.size + 3) 65 #[.int .i64 o.rp, .int .i64 0] := kS.set_ 0 (.int .i64 o.rp)
  replace rC := rC.store (p := ⟨w.heap.size + 3, 0, none⟩) (show w.heap.size + 3 < W8.heap.size ∨ W9.heap.size ≤ w.heap.size + 3 by omega) (.int .i64 o.rp)
  replace G : Below w.heap.size w (W14.setCell ⟨w.heap.size + 3, 0, none⟩ (.int .i64 o.rp)) := Below.setCell G (show w.heap.size ≤ w.heap.size + 3 by omega) _
  have z15 : (W14.setCell ⟨w.heap.size + 3, 0, none⟩ (.int .i64 o.rp)).heap.size = W14.heap.size := by simp [World.setCell]
  generalize W14.setCell ⟨w.heap.size + 3, 0, none⟩ (.int .i64 o.rp) = W15 at kP kX kR kS rC G z15 ⊢
  replace kP := kP.far (p := ⟨w.heap.size + 3, 1, none⟩) (show w.heap.size ≠ w.heap.size + 3 by omega) (.int .i64 o.ou)
  replace kX := kX.far (p := ⟨w.heap.size + 3, 1, none⟩) (show w.heap.size + 1 ≠ w.heap.size + 3 by omega) (.int .i64 o.ou)
  replace kR := kR.far (p := ⟨w.heap.size + 3, 1, none⟩) (show w.heap.size + 2 ≠ w.heap.size + 3 by omega) (.int .i64 o.ou)
  replace kS : Blk (W15.setCell ⟨w.heap.size + 3, 1, none⟩ (.int .i64 o.ou)) (w.heap.size + 3) 65 #[.int .i64 o.rp, .int .i64 o.ou] := kS.set_ 1 (.int .i64 o.ou)
  replace rC := rC.store (p := ⟨w.heap.size + 3, 1, none⟩) (show w.heap.size + 3 < W8.heap.size ∨ W9.heap.size ≤ w.heap.size + 3 by omega) (.int .i64 o.ou)
  replace G : Below w.heap.size w (W15.setCell ⟨w.heap.size + 3, 1, none⟩ (.int .i64 o.ou)) := Below.setCell G (show w.heap.size ≤ w.heap.size + 3 by omega) _
  have z16 : (W15.setCell ⟨w.heap.size + 3, 1, none⟩ (.int .i64 o.ou)).heap.size = W15.heap.size := by simp [World.setCell]
  generalize W15.setCell ⟨w.heap.size + 3, 1, none⟩ (.int .i64 o.ou) = W16 at kP kX kR kS rC G z16 ⊢
  obtain ⟨tR, qR0, qR1, qR2, qR3, qR4⟩ := kR.q5
  obtain ⟨tS, qS0, qS1⟩ := kS.q2
  exact bodyPost_ret (v := .tuple #[.agg #[.slice B0 o.ts.length d0, .slice B1 o.ks.length d1, .slice B2 o.fs.length d2, .int .i64 o.tn, .bool o.st], .agg #[.int .i64 o.rp, .int .i64 o.ou]]) (by simp [results, Try.results141, go_sem, qR0, qR1, qR2, qR3, qR4, qS0, qS1]) rfl ⟨B0, B1, B2, d0, d1, d2, rfl, rC.wide (by omega) (by omega), G⟩
end Go.Proofs.Ytgncjcnobojgbaa

namespace Go.Proofs.Ytgncjcnobojgbaa
open Go.RowKit
set_option linter.unusedVariables false

theorem sRunBy_v (ts : List T7) (A0 A1 A2 : Option Addr) (c0 n1 c1 n2 c2 : Nat) (tn : Int) (st : Bool) (wk z : Int) (hz : runM ts wk 0 = z) (w : World) (hlen : ts.length ≤ 1048576) (h0 : Row w A0 (tcells ts)) :
    Calls Try.prog 18 #[.agg #[.slice A0 ts.length c0, .slice A1 n1 c1, .slice A2 n2 c2, .int .i64 tn, .bool st], .int .i64 wk] w fun r w' => r = .returned (.int .i64 z) ∧ Below w.heap.size w w' := hz ▸ sRunBy_any ts A0 A1 A2 c0 n1 c1 n2 c2 tn st wk w hlen h0
theorem firstReady_v (ts : List T7) (A0 A1 A2 : Option Addr) (c0 n1 c1 n2 c2 : Nat) (tn : Int) (st : Bool) (z : Int) (hz : firstM ts = z) (w : World) (hlen : ts.length ≤ 1048576) (h : Row w A0 (tcells ts)) :
    Calls Try.prog 97 #[.agg #[.slice A0 ts.length c0, .slice A1 n1 c1, .slice A2 n2 c2, .int .i64 tn, .bool st]] w fun r w' => r = .returned (.int .i64 z) ∧ Below w.heap.size w w' := hz ▸ firstReady_any ts A0 A1 A2 c0 n1 c1 n2 c2 tn st w hlen h
end Go.Proofs.Ytgncjcnobojgbaa
