/- Contracts of the model whose answers are told by a number. Lists no longer than a million. -/
import Derived.Test.YtfkdfkoigojciaaGreatDoorQB04
import Derived.Test.YtfkdfkoigojciaaGreatDoorQB08
import Derived.Test.YtfkdfkoigojciaaGreatDoorQB03
import Derived.Test.YtfkdfkoigojciaaGreatDoorQB06
import Derived.Test.YtfkdfkoigojciaaGreatDoorQB02

namespace Go.Proofs.YtfkdfkoigojciaaGreatDoor
open Go.RowKit
set_option linter.unusedVariables false
def rT (n : Nat) (A : Option Addr) (c : Nat) (ts : List T7) : Res := .row 45 7 (.slice A n c) n (tcells ts)
def rK (n : Nat) (A : Option Addr) (c : Nat) (ks : List Int) : Res := .row 2 1 (.slice A n c) n (icells ks)
def rF (n : Nat) (A : Option Addr) (c : Nat) (fs : List F2) : Res := .row 103 2 (.slice A n c) n (fcells fs)
/-- A new pool and an answer; what the things 'ps' of the caller's have become. -/
def GaveS (ps : List Res) (w : World) (o : OutP) (r : Ending) (w' : World) : Prop :=
 ∃ (B0 B1 B2 : Option Addr) (d0 d1 d2 : Nat), r = .returned (.tuple #[.agg #[.slice B0 o.ts.length d0, .slice B1 o.ks.length d1, .slice B2 o.fs.length d2, .int .i64 o.tn, .bool o.st], .agg #[.int .i64 o.rp, .int .i64 o.ou]]) ∧ Sep (fps ps) w w' [rT o.ts.length B0 d0 o.ts, rK o.ks.length B1 d1 o.ks, rF o.fs.length B2 d2 o.fs]
theorem sepPool {w W : World} {lo hi : Nat} {ts : List T7} {ks : List Int} {fs : List F2} {A0 A1 A2 : Option Addr} {c0 c1 c2 : Nat} (hlo : w.heap.size ≤ lo) (hb : Below w.heap.size w W) (h : OwnPool W lo hi ts ks fs A0 A1 A2 c0 c1 c2) : Sep [] w W [rT ts.length A0 c0 ts, rK ks.length A1 c1 ks, rF fs.length A2 c2 fs] :=
 sepRows3 hlo hb h.1.1 h.2.1.1 h.2.2.1 (by decide) (by decide) (by decide)
theorem l3Copy_s (ts : List T7) (ks : List Int) (fs : List F2) (A0 A1 A2 : Option Addr) (c0 c1 c2 : Nat) (tn : Int) (st : Bool) (w : World) (l0 : ts.length ≤ 1048576) (l1 : ks.length ≤ 1048576) (l2 : fs.length ≤ 1048576) (h : InPool w ts ks fs A0 A1 A2) :
 Calls Tryz.prog 54 #[.agg #[.slice A0 ts.length c0, .slice A1 ks.length c1, .slice A2 fs.length c2, .int .i64 tn, .bool st]] w fun r w' => ∃ (B0 B1 B2 : Option Addr) (d0 d1 d2 : Nat), r = .returned (.agg #[.slice B0 ts.length d0, .slice B1 ks.length d1, .slice B2 fs.length d2, .int .i64 tn, .bool st]) ∧ Sep [] w w' [rT ts.length B0 d0 ts, rK ks.length B1 d1 ks, rF fs.length B2 d2 fs] :=
 (l3Copy_any ts ks fs A0 A1 A2 c0 c1 c2 tn st w l0 l1 l2 h).mono fun r w' ⟨B0, B1, B2, d0, d1, d2, hr, ho, hb⟩ => ⟨B0, B1, B2, d0, d1, d2, hr, sepPool (Nat.le_refl _) hb ho⟩
theorem l6No_s (a b c d e : Int) (ts : List T7) (ks : List Int) (fs : List F2) (A0 A1 A2 : Option Addr) (c0 c1 c2 : Nat) (tn : Int) (st : Bool) (rp : Int) (w : World) (ht : ts.length ≤ 1048576) (hk : ks.length ≤ 1048576) (hf : fs.length ≤ 1048576) (h : InPool w ts ks fs A0 A1 A2) :
 Calls Tryz.prog 53 #[.agg #[.int .i64 a, .int .i64 b, .int .i64 c, .int .i64 d, .int .i64 e], .agg #[.slice A0 ts.length c0, .slice A1 ks.length c1, .slice A2 fs.length c2, .int .i64 tn, .bool st], .int .i64 rp] w (GaveS [] w (noO (poolB a b c d e ts ks fs tn) ts ks fs tn st rp)) :=
 (l6No_any a b c d e ts ks fs A0 A1 A2 c0 c1 c2 tn st rp w ht hk hf h).mono fun r w' ⟨B0, B1, B2, d0, d1, d2, hr, ho, hb⟩ => ⟨B0, B1, B2, d0, d1, d2, hr, sepPool (Nat.le_refl _) hb ho⟩
theorem l6Done_s (a b c d e : Int) (ts : List T7) (ks : List Int) (fs : List F2) (A0 A1 A2 : Option Addr) (c0 c1 c2 : Nat) (tn : Int) (st : Bool) (n0 n1 n2 : Nat) (tsx : List T7) (ksx : List Int) (fsx : List F2) (A0x A1x A2x : Option Addr) (c0x c1x c2x : Nat) (tnx : Int) (stx : Bool) (rp ou : Int) {S : List Nat} {w0 : World} {rs : List Res} (w : World) (e0 : tsx.length = n0) (e1 : ksx.length = n1) (e2 : fsx.length = n2) (ho : poolB a b c d e ts ks fs tn = true) (ht : ts.length ≤ 1048576) (hk : ks.length ≤ 1048576) (hf : fs.length ≤ 1048576) (htx : n0 ≤ 1048576) (hkx : n1 ≤ 1048576) (hfx : n2 ≤ 1048576) (h : InPool w ts ks fs A0 A1 A2) (hM : Sep S w0 w ([rT n0 A0x c0x tsx, rK n1 A1x c1x ksx, rF n2 A2x c2x fsx] ++ rs)) :
 Calls Tryz.prog 56 #[.agg #[.int .i64 a, .int .i64 b, .int .i64 c, .int .i64 d, .int .i64 e], .agg #[.slice A0 ts.length c0, .slice A1 ks.length c1, .slice A2 fs.length c2, .int .i64 tn, .bool st], .agg #[.slice A0x n0 c0x, .slice A1x n1 c1x, .slice A2x n2 c2x, .int .i64 tnx, .bool stx], .int .i64 rp, .int .i64 ou] w (GaveS [rT n0 A0x c0x tsx, rK n1 A1x c1x ksx, rF n2 A2x c2x fsx] w (doneO (poolB a b c d e tsx ksx fsx tnx) ts ks fs tn st tsx ksx fsx tnx stx rp ou)) := by
 subst e0 e1 e2
 have hx : InPool w tsx ksx fsx A0x A1x A2x := ⟨Row.of_own (hM.rowAt 0 rfl), Row.of_own (hM.rowAt 1 rfl), Row.of_own (hM.rowAt 2 rfl)⟩
 by_cases hz : poolB a b c d e tsx ksx fsx tnx = true
 ·rw [hz]
  exact (l6Done_yes a b c d e ts ks fs A0 A1 A2 c0 c1 c2 tn st tsx ksx fsx A0x A1x A2x c0x c1x c2x tnx stx rp ou w ho hz ht hk hf htx hkx hfx h hx).mono fun r w' hr => ⟨_, _, _, _, _, _, hr.1, hM.same hr.2⟩
 ·have hz' : poolB a b c d e tsx ksx fsx tnx = false := by simpa using hz
  rw [hz']
  exact (l6Done_full a b c d e ts ks fs A0 A1 A2 c0 c1 c2 tn st tsx ksx fsx A0x A1x A2x c0x c1x c2x tnx stx rp ou w ho hz' ht hk hf htx hkx hfx h hx).mono fun r w' hr => by
   obtain ⟨B0, B1, B2, d0, d1, d2, he, hw, hb⟩ := hr
   exact ⟨B0, B1, B2, d0, d1, d2, he, (sepPool (Nat.le_refl _) hb hw).wideS (by simp)⟩
/-- What a callee says of a row of the caller's between two marks, said of the row alone. -/
theorem sep_of_within {P : Program} {f : FuncId} {args : Array Value} {w : World} {R : Ending → Prop} {e : TypeId} {size n : Nat} {v : Value} {xs xs' : List Value} (h : w.ownsRow 0 e size v n xs) (k : ∀ lo hi, hi ≤ w.heap.size → OwnR w lo hi e size v n xs → Calls P f args w fun r w' => R r ∧ OwnR w' lo hi e size v n xs' ∧ Within lo hi w w') :
 Calls P f args w fun r w' => R r ∧ Sep (fps [.row e size v n xs]) w w' [.row e size v n xs'] := by
 rcases hv : v.ownBlock with _ | g
 ·refine (k 0 0 (Nat.zero_le _) ⟨h, fun k hk => by rw [hv] at hk; cases hk⟩).mono fun r w' hr => ⟨hr.1, sepOne (fun g hg => .inl hg) ?_ hr.2.1.1⟩
  rw [hv]
  exact ⟨hr.2.2.1, hr.2.2.2.1, hr.2.2.2.2.1, hr.2.2.2.2.2.1, fun i hi _ => hr.2.2.2.2.2.2 i hi (.inr (Nat.zero_le _))⟩
 ·have hl := (World.ownsRow.lt h g hv).2
  refine (k g (g + 1) (by omega) ⟨own_raise h (fun x hx => by rw [hv] at hx; injection hx with hx; omega), fun x hx => by rw [hv] at hx; injection hx with hx; omega⟩).mono fun r w' hr => ⟨hr.1, sepOne (fun g hg => .inl hg) ?_ (Own.lower hr.2.1.1 (Nat.zero_le _))⟩
  rw [hv]
  exact ⟨hr.2.2.1, hr.2.2.2.1, hr.2.2.2.2.1, hr.2.2.2.2.2.1, fun i hi hne => hr.2.2.2.2.2.2 i hi (by rcases Nat.lt_or_ge i g with h1 | h1; exact .inl h1; exact .inr (by rcases Nat.lt_or_ge g i with h2 | h2; exact h2; exact absurd (by rw [Nat.le_antisymm h1 h2]) hne))⟩
theorem l5Wake_s (ts : List T7) (A0 A1 A2 : Option Addr) (c0 n1 c1 n2 c2 : Nat) (tn : Int) (st : Bool) (k : Nat) (s l o wt on v0 t : Int) (v : Int) (w : World) (hlen : ts.length ≤ 1048576) (t0 : -1000000000 ≤ tn) (t1 : tn ≤ 1000000000) (ht : ts[k]? = some ⟨s, l, o, wt, on, v0, t⟩) (h : (rT ts.length A0 c0 ts).here w) :
 Calls Tryz.prog 98 #[.agg #[.slice A0 ts.length c0, .slice A1 n1 c1, .slice A2 n2 c2, .int .i64 tn, .bool st], .int .i64 k, .int .i64 v] w fun r w' => r = .returned (.agg #[.slice A0 ts.length c0, .slice A1 n1 c1, .slice A2 n2 c2, .int .i64 (tn + 1), .bool st]) ∧ Sep (fps [rT ts.length A0 c0 ts]) w w' [rT ts.length A0 c0 (ts.set k (wakeT ⟨s, l, o, wt, on, v0, t⟩ tn v))] :=
 sep_of_within h fun lo hi hh ho => l5Wake_any ts A0 A1 A2 c0 n1 c1 n2 c2 tn st k s l o wt on v0 t v lo hi w hh hlen t0 t1 ht ho
theorem l5Park_s (ts : List T7) (A0 A1 A2 : Option Addr) (c0 n1 c1 n2 c2 : Nat) (tn : Int) (st : Bool) (k : Nat) (s l o wt on v0 t : Int) (pw po : Int) (w : World) (hlen : ts.length ≤ 1048576) (t0 : -1000000000 ≤ tn) (t1 : tn ≤ 1000000000) (ht : ts[k]? = some ⟨s, l, o, wt, on, v0, t⟩) (h : (rT ts.length A0 c0 ts).here w) :
 Calls Tryz.prog 74 #[.agg #[.slice A0 ts.length c0, .slice A1 n1 c1, .slice A2 n2 c2, .int .i64 tn, .bool st], .int .i64 k, .int .i64 pw, .int .i64 po] w fun r w' => r = .returned (.agg #[.slice A0 ts.length c0, .slice A1 n1 c1, .slice A2 n2 c2, .int .i64 (tn + 1), .bool st]) ∧ Sep (fps [rT ts.length A0 c0 ts]) w w' [rT ts.length A0 c0 (ts.set k (parkT ⟨s, l, o, wt, on, v0, t⟩ tn pw po))] :=
 sep_of_within h fun lo hi hh ho => l5Park_any ts A0 A1 A2 c0 n1 c1 n2 c2 tn st k s l o wt on v0 t pw po lo hi w hh hlen t0 t1 ht ho
theorem l5WakeAll_s (ts : List T7) (n : Nat) (hn : ts.length = n) (A0 A1 A2 : Option Addr) (c0 n1 c1 n2 c2 : Nat) (tn : Int) (st : Bool) (wa oa v : Int) (w : World) (hlen : n ≤ 1048576) (t0 : -500000000 ≤ tn) (t1 : tn ≤ 500000000) (h : (rT n A0 c0 ts).here w) :
 Calls Tryz.prog 75 #[.agg #[.slice A0 n c0, .slice A1 n1 c1, .slice A2 n2 c2, .int .i64 tn, .bool st], .int .i64 wa, .int .i64 oa, .int .i64 v] w fun r w' => r = .returned (.tuple #[.agg #[.slice A0 n c0, .slice A1 n1 c1, .slice A2 n2 c2, .int .i64 (tn + (waitersM ts wa oa).length), .bool st], .int .i64 ((waitersM ts wa oa).length : Nat)]) ∧ Sep (fps [rT n A0 c0 ts]) w w' [rT n A0 c0 (wakeAllT (waitersM ts wa oa) ts tn v)] := by
 subst hn
 exact sep_of_within h fun lo hi hh ho => l5WakeAll_any ts A0 A1 A2 c0 n1 c1 n2 c2 tn st wa oa v lo hi w hh hlen t0 t1 ho
def T7.put (x : T7) (j : Nat) (u : Int) : T7 := match j with
 | 0 => ⟨u, x.l, x.o, x.wt, x.on, x.v, x.t⟩
 | 1 => ⟨x.s, u, x.o, x.wt, x.on, x.v, x.t⟩
 | 2 => ⟨x.s, x.l, u, x.wt, x.on, x.v, x.t⟩
 | 3 => ⟨x.s, x.l, x.o, u, x.on, x.v, x.t⟩
 | 4 => ⟨x.s, x.l, x.o, x.wt, u, x.v, x.t⟩
 | 5 => ⟨x.s, x.l, x.o, x.wt, x.on, u, x.t⟩
 | _ => ⟨x.s, x.l, x.o, x.wt, x.on, x.v, u⟩
theorem tcells_setput (ts : List T7) (k j : Nat) (hj : j < 7) (x : T7) (u : Int) (hk : ts[k]? = some x) : (tcells ts).set (k * 7 + j) (.int .i64 u) = tcells (ts.set k (x.put j u)) := by
 obtain ⟨s, l, o, wt, on, v, t⟩ := x
 have hj7 : j = 0 ∨ j = 1 ∨ j = 2 ∨ j = 3 ∨ j = 4 ∨ j = 5 ∨ j = 6 := by omega
 rcases hj7 with rfl | rfl | rfl | rfl | rfl | rfl | rfl
 ·exact tput_s ts k s l o wt on v t u hk
 ·exact tput_l ts k s l o wt on v t u hk
 ·exact tput_o ts k s l o wt on v t u hk
 ·exact tput_wt ts k s l o wt on v t u hk
 ·exact tput_on ts k s l o wt on v t u hk
 ·exact tput_v ts k s l o wt on v t u hk
 ·exact tput_t ts k s l o wt on v t u hk
theorem Sep.putT {S : List Nat} {w W : World} {rs : List Res} (h : Sep S w W rs) (i : Nat) {g n c : Nat} {ts : List T7} (hi : rs[i]? = some (rT n (some ⟨g, 0, none⟩) c ts)) (k j : Nat) (hj : j < 7) (x : T7) (u : Int) (hk : ts[k]? = some x) : Sep S w (W.setCell ⟨g, k * 7 + j, none⟩ (.int .i64 u)) (rs.set i (rT n (some ⟨g, 0, none⟩) c (ts.set k (x.put j u)))) := by
 have h2 := h.setR i hi (k * 7 + j) (.int .i64 u)
 rw [tcells_setput ts k j hj x u hk] at h2
 exact h2
theorem Sep.putT2 {S : List Nat} {w W : World} {rs : List Res} (h : Sep S w W rs) (i : Nat) {g n c : Nat} {ts : List T7} (hi : rs[i]? = some (rT n (some ⟨g, 0, none⟩) c ts)) (k j1 j2 : Nat) (h1 : j1 < 7) (h2 : j2 < 7) (x : T7) (u1 u2 : Int) (hk : ts[k]? = some x) : Sep S w ((W.setCell ⟨g, k * 7 + j1, none⟩ (.int .i64 u1)).setCell ⟨g, k * 7 + j2, none⟩ (.int .i64 u2)) (rs.set i (rT n (some ⟨g, 0, none⟩) c (ts.set k ((x.put j1 u1).put j2 u2)))) := by
 have hl : i < rs.length := by
  rcases Nat.lt_or_ge i rs.length with h1 | h1
  ·exact h1
  ·rw [List.getElem?_eq_none h1] at hi; cases hi
 have hkl : k < ts.length := by
  rcases Nat.lt_or_ge k ts.length with h1 | h1
  ·exact h1
  ·rw [List.getElem?_eq_none h1] at hk; cases hk
 have h3 := (h.putT i hi k j1 h1 x u1 hk).putT i (List.getElem?_set_self hl) k j2 h2 (x.put j1 u1) u2 (List.getElem?_set_self hkl)
 rw [List.set_set, List.set_set] at h3
 exact h3
theorem Sep.putT3 {S : List Nat} {w W : World} {rs : List Res} (h : Sep S w W rs) (i : Nat) {g n c : Nat} {ts : List T7} (hi : rs[i]? = some (rT n (some ⟨g, 0, none⟩) c ts)) (k j1 j2 j3 : Nat) (h1 : j1 < 7) (h2 : j2 < 7) (h3 : j3 < 7) (x : T7) (u1 u2 u3 : Int) (hk : ts[k]? = some x) : Sep S w (((W.setCell ⟨g, k * 7 + j1, none⟩ (.int .i64 u1)).setCell ⟨g, k * 7 + j2, none⟩ (.int .i64 u2)).setCell ⟨g, k * 7 + j3, none⟩ (.int .i64 u3)) (rs.set i (rT n (some ⟨g, 0, none⟩) c (ts.set k (((x.put j1 u1).put j2 u2).put j3 u3)))) := by
 have hl : i < rs.length := by
  rcases Nat.lt_or_ge i rs.length with h1 | h1
  ·exact h1
  ·rw [List.getElem?_eq_none h1] at hi; cases hi
 have hkl : k < ts.length := by
  rcases Nat.lt_or_ge k ts.length with h1 | h1
  ·exact h1
  ·rw [List.getElem?_eq_none h1] at hk; cases hk
 have h4 := (h.putT2 i hi k j1 j2 h1 h2 x u1 u2 hk).putT i (List.getElem?_set_self hl) k j3 h3 ((x.put j1 u1).put j2 u2) u3 (List.getElem?_set_self hkl)
 rw [List.set_set, List.set_set] at h4
 exact h4
theorem rT_form {W : World} {n c : Nat} {A : Option Addr} {ts : List T7} (h : (rT n A c ts).here W) (hn : 0 < n) : ∃ g, A = some ⟨g, 0, none⟩ ∧ g < W.heap.size ∧ ∀ j, W.frozen? ⟨g, j, none⟩ = false := by
 obtain ⟨g, cap, hv, _, hgl⟩ := World.ownsRow.form h hn
 injection hv with hA _ hc
 subst hA
 exact ⟨g, rfl, hgl, fun j => Own.fz h j⟩
theorem rK_form {W : World} {n c : Nat} {A : Option Addr} {ks : List Int} (h : (rK n A c ks).here W) (hn : 0 < n) : ∃ g, A = some ⟨g, 0, none⟩ ∧ g < W.heap.size ∧ ∀ j, W.frozen? ⟨g, j, none⟩ = false := by
 obtain ⟨g, cap, hv, _, hgl⟩ := World.ownsRow.form h hn
 injection hv with hA _ hc
 subst hA
 exact ⟨g, rfl, hgl, fun j => Own.fz h j⟩
theorem Sep.putK {S : List Nat} {w W : World} {rs : List Res} (h : Sep S w W rs) (i : Nat) {g n c : Nat} {ks : List Int} (hi : rs[i]? = some (rK n (some ⟨g, 0, none⟩) c ks)) (k : Nat) (u : Int) : Sep S w (W.setCell ⟨g, k, none⟩ (.int .i64 u)) (rs.set i (rK n (some ⟨g, 0, none⟩) c (ks.set k u))) := by
 have h2 := h.setR i hi k (.int .i64 u)
 rw [icells_put] at h2
 exact h2
/-- A pool and an answer, part by part. -/
def GaveA (us : List T7) (ks : List Int) (fs : List F2) (tn : Int) (st : Bool) (rp ou : Int) (w : World) (r : Ending) (w' : World) : Prop :=
 ∃ (B0 B1 B2 : Option Addr) (d0 d1 d2 : Nat), r = .returned (.tuple #[.agg #[.slice B0 us.length d0, .slice B1 ks.length d1, .slice B2 fs.length d2, .int .i64 tn, .bool st], .agg #[.int .i64 rp, .int .i64 ou]]) ∧ Sep [] w w' [rT us.length B0 d0 us, rK ks.length B1 d1 ks, rF fs.length B2 d2 fs]
set_option maxRecDepth 100000
theorem ret_int {a b : Int} (h : a = b) : Ending.returned (.int .i64 a) = .returned (.int .i64 b) := by rw [h]
def markT (k : Int) : Nat → List T7
 | 0 => []
 | n + 1 => ⟨k, k + 1, k + 1 + 1, k + 1 + 1 + 1, k + 1 + 1 + 1 + 1, k + 1 + 1 + 1 + 1 + 1, k + 1 + 1 + 1 + 1 + 1 + 1⟩ :: markT (k + 7) n
def markK (k : Int) : Nat → List Int
 | 0 => []
 | n + 1 => k :: markK (k + 1) n
def markF (k : Int) : Nat → List F2
 | 0 => []
 | n + 1 => ⟨k % 3 == 0, k + 1⟩ :: markF (k + 2) n
theorem markT_length (k : Int) (n : Nat) : (markT k n).length = n := by induction n generalizing k with | zero => rfl | succ n ih => simp [markT, ih]
theorem markK_length (k : Int) (n : Nat) : (markK k n).length = n := by induction n generalizing k with | zero => rfl | succ n ih => simp [markK, ih]
theorem markF_length (k : Int) (n : Nat) : (markF k n).length = n := by induction n generalizing k with | zero => rfl | succ n ih => simp [markF, ih]
theorem markT_at (k : Int) (n j : Nat) (h : j < n) (m : Int) (hm : m = k + 7 * j) : (markT k n)[j]? = some ⟨m, m + 1, m + 1 + 1, m + 1 + 1 + 1, m + 1 + 1 + 1 + 1, m + 1 + 1 + 1 + 1 + 1, m + 1 + 1 + 1 + 1 + 1 + 1⟩ := by
 subst hm
 induction n generalizing k j with
 | zero => omega
 | succ n ih =>
  cases j with
  | zero => simp [markT]
  | succ j => simp only [markT, List.getElem?_cons_succ]; rw [ih (k + 7) j (by omega), show k + 7 + 7 * (j : Int) = k + 7 * ((j + 1 : Nat) : Int) from by omega]
theorem markK_at (k : Int) (n j : Nat) (h : j < n) (m : Int) (hm : m = k + j) : (markK k n)[j]? = some m := by
 subst hm
 induction n generalizing k j with
 | zero => omega
 | succ n ih =>
  cases j with
  | zero => simp [markK]
  | succ j => simp only [markK, List.getElem?_cons_succ]; rw [ih (k + 1) j (by omega), show k + 1 + (j : Int) = k + ((j + 1 : Nat) : Int) from by omega]
theorem markF_at (k : Int) (n j : Nat) (h : j < n) (m : Int) (hm : m = k + 2 * j) : (markF k n)[j]? = some ⟨m % 3 == 0, m + 1⟩ := by
 subst hm
 induction n generalizing k j with
 | zero => omega
 | succ n ih =>
  cases j with
  | zero => simp [markF]
  | succ j => simp only [markF, List.getElem?_cons_succ]; rw [ih (k + 2) j (by omega), show k + 2 + 2 * (j : Int) = k + 2 * ((j + 1 : Nat) : Int) from by omega]
theorem grown_put {a w : World} {g : Nat} (h : a.grownBy w (some g)) (o : Nat) (v : Value) : a.grownBy (w.setCell ⟨g, o, none⟩ v) (some g) := only_setCell h (.inl rfl) v
set_option maxHeartbeats 1000000 in
theorem markT_any (ts : List T7) (A : Option Addr) (c : Nat) (lo hi : Nat) (q : Int) (w : World) (hlen : ts.length ≤ 1048576) (hq0 : 0 ≤ q) (hq1 : q ≤ 100000000) (h : OwnR w lo hi 45 7 (.slice A ts.length c) ts.length (tcells ts)) :
 Calls Tryz.prog 108 #[.slice A ts.length c, .int .i64 q] w fun r w' => r = .returned (.int .i64 (q + 7 * ts.length)) ∧ OwnR w' lo hi 45 7 (.slice A ts.length c) ts.length (tcells (markT q ts.length)) ∧ w.grownBy w' (Value.slice A ts.length c).ownBlock := by
 have H := hide h
 have hhi := hide h.2
 clear h
 go_enter Tryz.func108, Tryz.ntmps108
 go_wp2
 go_loopw [1, 5] (fun m i wr => ∃ (k : Nat) (us : List T7), k ≤ ts.length ∧ i = .int .i64 k ∧ m = .int .i64 (q + 7 * k) ∧ us.length = ts.length ∧ us.take k = (markT q ts.length).take k ∧ wr.ownsRow lo 45 7 (.slice A ts.length c) ts.length (tcells us) ∧ w.grownBy wr (Value.slice A ts.length c).ownBlock) (fun _ i _ => ts.length - (intOf i).toNat)
 case atStart => exact ⟨0, ts, Nat.zero_le _, rfl, by simp, rfl, rfl, H.out.1, World.grownBy.refl _ _⟩
 case round =>
  obtain ⟨k, us, hk, rfl, rfl, hul, htk, hown, hgr⟩ := hrel
  obtain ⟨m, hm⟩ : ∃ m : Int, m = q + 7 * (k : Int) := ⟨_, rfl⟩
  have Hm := hide hm
  by_cases hlt : k < ts.length
  ·obtain ⟨g, cap, hv, _, hgl⟩ := hown.form (by omega)
   injection hv with hA _ hc
   subst hA hc
   have hm0 : 0 ≤ m := by omega
   have hm1 : m ≤ 200000000 := by omega
   rw [← hm]
   clear hm
   obtain ⟨s1, l1, o1, wt1, on1, v1, t1, _, y0, y1, y2, y3, y4, y5, y6⟩ := Own.t7 hown (show k < us.length by omega)
   have f0 : wr.frozen? ⟨g, k * 7, none⟩ = false := Own.fz hown _
   have f1 : wr.frozen? ⟨g, k * 7 + 1, none⟩ = false := Own.fz hown _
   have f2 : wr.frozen? ⟨g, k * 7 + 2, none⟩ = false := Own.fz hown _
   have f3 : wr.frozen? ⟨g, k * 7 + 3, none⟩ = false := Own.fz hown _
   have f4 : wr.frozen? ⟨g, k * 7 + 4, none⟩ = false := Own.fz hown _
   have f5 : wr.frozen? ⟨g, k * 7 + 5, none⟩ = false := Own.fz hown _
   have f6 : wr.frozen? ⟨g, k * 7 + 6, none⟩ = false := Own.fz hown _
   have H1 := hide (⟨hown, hul, htk, hgr⟩ : _ ∧ _ ∧ _ ∧ _)
   clear hown hul htk hgr
   go_wp2
   go_roundw
   case rel =>
    obtain ⟨hown, hul, htk, hgr⟩ := H1.out
    have hgr : w.grownBy wr (some g) := hgr
    have hat := markT_at q ts.length k hlt m Hm.out
    exact ⟨k + 1, _, by omega, by go_num, by have := Hm.out; congr 1; omega, by rw [List.length_set]; exact hul, take_set (by rw [markT_length]; exact hul) htk hat, Own.put7 hown k m (m + 1) (m + 1 + 1) (m + 1 + 1 + 1) (m + 1 + 1 + 1 + 1) (m + 1 + 1 + 1 + 1 + 1) (m + 1 + 1 + 1 + 1 + 1 + 1), grown_put (grown_put (grown_put (grown_put (grown_put (grown_put (grown_put (hgr) _ _) _ _) _ _) _ _) _ _) _ _) _ _⟩
   case measure => simp [intOf]; omega
  ·obtain rfl : k = ts.length := by omega
   have hus : us = markT q ts.length := by
    rw [List.take_of_length_le (by omega), List.take_of_length_le (by rw [markT_length]; exact Nat.le_refl _)] at htk
    exact htk
   clear htk hul
   subst hus
   have H1 := hide (⟨hown, hgr⟩ : _ ∧ _)
   clear hown hgr Hm hm
   go_wp2
   go_ret
   exact ⟨rfl, ⟨H1.out.1, hhi.out⟩, H1.out.2⟩
set_option maxHeartbeats 1000000 in
theorem markK_any (ks : List Int) (A : Option Addr) (c : Nat) (lo hi : Nat) (q : Int) (w : World) (hlen : ks.length ≤ 1048576) (hq0 : 0 ≤ q) (hq1 : q ≤ 100000000) (h : OwnR w lo hi 2 1 (.slice A ks.length c) ks.length (icells ks)) :
 Calls Tryz.prog 109 #[.slice A ks.length c, .int .i64 q] w fun r w' => r = .returned (.int .i64 (q + ks.length)) ∧ OwnR w' lo hi 2 1 (.slice A ks.length c) ks.length (icells (markK q ks.length)) ∧ w.grownBy w' (Value.slice A ks.length c).ownBlock := by
 have H := hide h
 have hhi := hide h.2
 clear h
 go_enter Tryz.func109, Tryz.ntmps109
 go_wp2
 go_loopw [1, 5] (fun m i wr => ∃ (k : Nat) (us : List Int), k ≤ ks.length ∧ i = .int .i64 k ∧ m = .int .i64 (q + k) ∧ us.length = ks.length ∧ us.take k = (markK q ks.length).take k ∧ wr.ownsRow lo 2 1 (.slice A ks.length c) ks.length (icells us) ∧ w.grownBy wr (Value.slice A ks.length c).ownBlock) (fun _ i _ => ks.length - (intOf i).toNat)
 case atStart => exact ⟨0, ks, Nat.zero_le _, rfl, by simp, rfl, rfl, H.out.1, World.grownBy.refl _ _⟩
 case round =>
  obtain ⟨k, us, hk, rfl, rfl, hul, htk, hown, hgr⟩ := hrel
  obtain ⟨m, hm⟩ : ∃ m : Int, m = q + (k : Int) := ⟨_, rfl⟩
  have Hm := hide hm
  by_cases hlt : k < ks.length
  ·obtain ⟨g, cap, hv, _, hgl⟩ := hown.form (by omega)
   injection hv with hA _ hc
   subst hA hc
   have hm0 : 0 ≤ m := by omega
   have hm1 : m ≤ 200000000 := by omega
   rw [← hm]
   clear hm
   obtain ⟨v1, _, y0⟩ := Own.i1 hown (show k < us.length by omega)
   have f0 : wr.frozen? ⟨g, k, none⟩ = false := Own.fz hown _
   have H1 := hide (⟨hown, hul, htk, hgr⟩ : _ ∧ _ ∧ _ ∧ _)
   clear hown hul htk hgr
   go_wp2
   go_roundw
   case rel =>
    obtain ⟨hown, hul, htk, hgr⟩ := H1.out
    have hgr : w.grownBy wr (some g) := hgr
    have hat := markK_at q ks.length k hlt m Hm.out
    exact ⟨k + 1, _, by omega, by go_num, by have := Hm.out; congr 1; omega, by rw [List.length_set]; exact hul, take_set (by rw [markK_length]; exact hul) htk hat, Own.put1 hown k m, grown_put (hgr) _ _⟩
   case measure => simp [intOf]; omega
  ·obtain rfl : k = ks.length := by omega
   have hus : us = markK q ks.length := by
    rw [List.take_of_length_le (by omega), List.take_of_length_le (by rw [markK_length]; exact Nat.le_refl _)] at htk
    exact htk
   clear htk hul
   subst hus
   have H1 := hide (⟨hown, hgr⟩ : _ ∧ _)
   clear hown hgr Hm hm
   go_wp2
   go_ret
   exact ⟨rfl, ⟨H1.out.1, hhi.out⟩, H1.out.2⟩
set_option maxHeartbeats 1000000 in
theorem markF_any (fs : List F2) (A : Option Addr) (c : Nat) (lo hi : Nat) (q : Int) (w : World) (hlen : fs.length ≤ 1048576) (hq0 : 0 ≤ q) (hq1 : q ≤ 100000000) (h : OwnR w lo hi 103 2 (.slice A fs.length c) fs.length (fcells fs)) :
 Calls Tryz.prog 110 #[.slice A fs.length c, .int .i64 q] w fun r w' => r = .returned (.int .i64 (q + 2 * fs.length)) ∧ OwnR w' lo hi 103 2 (.slice A fs.length c) fs.length (fcells (markF q fs.length)) ∧ w.grownBy w' (Value.slice A fs.length c).ownBlock := by
 have H := hide h
 have hhi := hide h.2
 clear h
 go_enter Tryz.func110, Tryz.ntmps110
 go_wp2
 go_loopw [1, 5] (fun m i wr => ∃ (k : Nat) (us : List F2), k ≤ fs.length ∧ i = .int .i64 k ∧ m = .int .i64 (q + 2 * k) ∧ us.length = fs.length ∧ us.take k = (markF q fs.length).take k ∧ wr.ownsRow lo 103 2 (.slice A fs.length c) fs.length (fcells us) ∧ w.grownBy wr (Value.slice A fs.length c).ownBlock) (fun _ i _ => fs.length - (intOf i).toNat)
 case atStart => exact ⟨0, fs, Nat.zero_le _, rfl, by simp, rfl, rfl, H.out.1, World.grownBy.refl _ _⟩
 case round =>
  obtain ⟨k, us, hk, rfl, rfl, hul, htk, hown, hgr⟩ := hrel
  obtain ⟨m, hm⟩ : ∃ m : Int, m = q + 2 * (k : Int) := ⟨_, rfl⟩
  have Hm := hide hm
  by_cases hlt : k < fs.length
  ·obtain ⟨g, cap, hv, _, hgl⟩ := hown.form (by omega)
   injection hv with hA _ hc
   subst hA hc
   have hm0 : 0 ≤ m := by omega
   have hm1 : m ≤ 200000000 := by omega
   rw [← hm]
   clear hm
   obtain ⟨s1, v1, _, y0, y1⟩ := Own.f2 hown (show k < us.length by omega)
   have f0 : wr.frozen? ⟨g, k * 2, none⟩ = false := Own.fz hown _
   have f1 : wr.frozen? ⟨g, k * 2 + 1, none⟩ = false := Own.fz hown _
   have H1 := hide (⟨hown, hul, htk, hgr⟩ : _ ∧ _ ∧ _ ∧ _)
   clear hown hul htk hgr
   go_wp2
   go_roundw
   case rel =>
    obtain ⟨hown, hul, htk, hgr⟩ := H1.out
    have hgr : w.grownBy wr (some g) := hgr
    have hat := markF_at q fs.length k hlt m Hm.out
    exact ⟨k + 1, _, by omega, by go_num, by have := Hm.out; congr 1; omega, by rw [List.length_set]; exact hul, take_set (by rw [markF_length]; exact hul) htk hat, Own.put2 hown k (m % 3 == 0) (m + 1), grown_put (grown_put (hgr) _ _) _ _⟩
   case measure => simp [intOf]; omega
  ·obtain rfl : k = fs.length := by omega
   have hus : us = markF q fs.length := by
    rw [List.take_of_length_le (by omega), List.take_of_length_le (by rw [markF_length]; exact Nat.le_refl _)] at htk
    exact htk
   clear htk hul
   subst hus
   have H1 := hide (⟨hown, hgr⟩ : _ ∧ _)
   clear hown hgr Hm hm
   go_wp2
   go_ret
   exact ⟨rfl, ⟨H1.out.1, hhi.out⟩, H1.out.2⟩
set_option maxHeartbeats 1000000 in
theorem heldT_any (n : Nat) (A : Option Addr) (c : Nat) (q : Int) (w : World) (hlen : n ≤ 1048576) (hq0 : 0 ≤ q) (hq1 : q ≤ 100000000) (h : Row w A (tcells (markT q n))) :
 Calls Tryz.prog 111 #[.slice A n c, .int .i64 q] w fun r w' => r = .returned (.int .i64 (q + 7 * n)) ∧ Below w.heap.size w w' := by
 have H := hide h
 clear h
 go_enter Tryz.func111, Tryz.ntmps111
 go_wp2
 go_loopw [1, 5] (fun m i wr => ∃ (k : Nat), k ≤ n ∧ i = .int .i64 k ∧ m = .int .i64 (q + 7 * k) ∧ wr = w) (fun _ i _ => n - (intOf i).toNat)
 case atStart => exact ⟨0, Nat.zero_le _, rfl, by simp, rfl⟩
 case round =>
  obtain ⟨k, hk, rfl, rfl, rfl⟩ := hrel
  obtain ⟨m, hm⟩ : ∃ m : Int, m = q + 7 * (k : Int) := ⟨_, rfl⟩
  have Hm := hide hm
  by_cases hlt : k < n
  ·obtain ⟨b, off, s, l, o, wt, on, v, t, rfl, _, hx, hbz, z0, z1, z2, z3, z4, z5, z6⟩ := H.out.ts_at (k := k) (by rw [markT_length]; exact hlt)
   rw [markT_at q n k hlt m hm] at hx
   injection hx with hx
   injection hx with u0 u1 u2 u3 u4 u5 u6
   subst u0 u1 u2 u3 u4 u5 u6
   have hm0 : 0 ≤ m := by omega
   have hm1 : m ≤ 200000000 := by omega
   rw [← hm]
   clear hm
   go_wp2
   go_roundw
   case rel => exact ⟨k + 1, by omega, by go_num, by have := Hm.out; congr 1; omega, by trivial⟩
   case measure => simp [intOf]; omega
  ·obtain rfl : k = n := by omega
   clear Hm hm
   go_wp2
   go_ret
   exact ⟨rfl, Below.refl _ _⟩
set_option maxHeartbeats 1000000 in
theorem heldK_any (n : Nat) (A : Option Addr) (c : Nat) (q : Int) (w : World) (hlen : n ≤ 1048576) (hq0 : 0 ≤ q) (hq1 : q ≤ 100000000) (h : Row w A (icells (markK q n))) :
 Calls Tryz.prog 112 #[.slice A n c, .int .i64 q] w fun r w' => r = .returned (.int .i64 (q + n)) ∧ Below w.heap.size w w' := by
 have H := hide h
 clear h
 go_enter Tryz.func112, Tryz.ntmps112
 go_wp2
 go_loopw [1, 5] (fun m i wr => ∃ (k : Nat), k ≤ n ∧ i = .int .i64 k ∧ m = .int .i64 (q + k) ∧ wr = w) (fun _ i _ => n - (intOf i).toNat)
 case atStart => exact ⟨0, Nat.zero_le _, rfl, by simp, rfl⟩
 case round =>
  obtain ⟨k, hk, rfl, rfl, rfl⟩ := hrel
  obtain ⟨m, hm⟩ : ∃ m : Int, m = q + (k : Int) := ⟨_, rfl⟩
  have Hm := hide hm
  by_cases hlt : k < n
  ·obtain ⟨b, off, v, rfl, _, hx, hbz, z0⟩ := H.out.ks_at (k := k) (by rw [markK_length]; exact hlt)
   rw [markK_at q n k hlt m hm] at hx
   injection hx with hx
   subst hx
   have hm0 : 0 ≤ m := by omega
   have hm1 : m ≤ 200000000 := by omega
   rw [← hm]
   clear hm
   go_wp2
   go_roundw
   case rel => exact ⟨k + 1, by omega, by go_num, by have := Hm.out; congr 1; omega, by trivial⟩
   case measure => simp [intOf]; omega
  ·obtain rfl : k = n := by omega
   clear Hm hm
   go_wp2
   go_ret
   exact ⟨rfl, Below.refl _ _⟩
set_option maxHeartbeats 1000000 in
theorem heldF_any (n : Nat) (A : Option Addr) (c : Nat) (q : Int) (w : World) (hlen : n ≤ 1048576) (hq0 : 0 ≤ q) (hq1 : q ≤ 100000000) (h : Row w A (fcells (markF q n))) :
 Calls Tryz.prog 113 #[.slice A n c, .int .i64 q] w fun r w' => r = .returned (.int .i64 (q + 2 * n)) ∧ Below w.heap.size w w' := by
 have H := hide h
 clear h
 go_enter Tryz.func113, Tryz.ntmps113
 go_wp2
 go_loopw [1, 5] (fun m i wr => ∃ (k : Nat), k ≤ n ∧ i = .int .i64 k ∧ m = .int .i64 (q + 2 * k) ∧ wr = w) (fun _ i _ => n - (intOf i).toNat)
 case atStart => exact ⟨0, Nat.zero_le _, rfl, by simp, rfl⟩
 case round =>
  obtain ⟨k, hk, rfl, rfl, rfl⟩ := hrel
  obtain ⟨m, hm⟩ : ∃ m : Int, m = q + 2 * (k : Int) := ⟨_, rfl⟩
  have Hm := hide hm
  by_cases hlt : k < n
  ·obtain ⟨b, off, s, v, rfl, _, hx, hbz, z0, z1⟩ := H.out.fs_at (k := k) (by rw [markF_length]; exact hlt)
   rw [markF_at q n k hlt m hm] at hx
   injection hx with hx
   injection hx with u0 u1
   subst u0 u1
   have hm0 : 0 ≤ m := by omega
   have hm1 : m ≤ 200000000 := by omega
   rw [← hm]
   clear hm
   go_wp2
   go_roundw
   case rel => exact ⟨k + 1, by omega, by go_num, by have := Hm.out; congr 1; omega, by trivial⟩
   case measure => simp [intOf]; omega
  ·obtain rfl : k = n := by omega
   clear Hm hm
   go_wp2
   go_ret
   exact ⟨rfl, Below.refl _ _⟩
def markEnd (q : Int) (n0 n1 n2 : Nat) : Int := q + 7 * n0 + n1 + 2 * n2
set_option maxHeartbeats 1000000 in
theorem heldPool_any (n0 n1 n2 : Nat) (A0 A1 A2 : Option Addr) (c0 c1 c2 : Nat) (tn : Int) (st : Bool) (q : Int) (w : World) (hlen : n0 + n1 + n2 ≤ 1048576) (hq0 : 0 ≤ q) (hq1 : q ≤ 10) (h : InPool w (markT q n0) (markK (q + 7 * n0) n1) (markF (q + 7 * n0 + n1) n2) A0 A1 A2) :
 Calls Tryz.prog 46 #[.agg #[.slice A0 n0 c0, .slice A1 n1 c1, .slice A2 n2 c2, .int .i64 tn, .bool st], .int .i64 q] w fun r w' => r = .returned (.int .i64 (markEnd q n0 n1 n2)) ∧ Below w.heap.size w w' := by
 have H := hide h
 clear h
 go_enter Tryz.func46, Tryz.ntmps46
 go_wp2_with fail
 have G := Below.refl w.heap.size w
 have kP := Blk.new w 35 #[.slice A0 n0 c0, .slice A1 n1 c1, .slice A2 n2 c2, .int .i64 tn, .bool st]
 have hbs := G.size
 replace G := G.alloc (by omega) (.cells #[.slice A0 n0 c0, .slice A1 n1 c1, .slice A2 n2 c2, .int .i64 tn, .bool st] 35)
 have z1 : (w.alloc (.cells #[.slice A0 n0 c0, .slice A1 n1 c1, .slice A2 n2 c2, .int .i64 tn, .bool st] 35)).heap.size = w.heap.size + 1 := by simp
 clear hbs
 generalize w.alloc (.cells #[.slice A0 n0 c0, .slice A1 n1 c1, .slice A2 n2 c2, .int .i64 tn, .bool st] 35) = W1 at kP G z1 ⊢
 go_call (heldT_any n0 A0 c0 q _ (by omega) hq0 (by omega) (H.out.1.below G)) as r W2 ⟨rfl, g1⟩
 have hbs := G.size
 replace kP := kP.below g1 kP.lt
 replace G := G.trans (g1.mono (by omega))
 have z2 := g1.size
 clear g1 hbs
 have e0 : ¬ (q + 7 * (n0 : Int) < 0) := by omega
 obtain ⟨tP, qP0, qP1, qP2, qP3, qP4⟩ := kP.q5
 go_wp2_with fail
 go_call (heldK_any n1 A1 c1 (q + 7 * n0) _ (by omega) (by omega) (by omega) (H.out.2.1.below G)) as r W3 ⟨rfl, g1⟩
 clear tP qP0 qP1 qP2 qP3 qP4
 have hbs := G.size
 replace kP := kP.below g1 kP.lt
 replace G := G.trans (g1.mono (by omega))
 have z3 := g1.size
 clear g1 hbs
 have e1 : ¬ (q + 7 * (n0 : Int) + n1 < 0) := by omega
 obtain ⟨tP, qP0, qP1, qP2, qP3, qP4⟩ := kP.q5
 go_wp2_with fail
 go_call (heldF_any n2 A2 c2 (q + 7 * n0 + n1) _ (by omega) (by omega) (by omega) (H.out.2.2.below G)) as r W4 ⟨rfl, g1⟩
 clear tP qP0 qP1 qP2 qP3 qP4
 have hbs := G.size
 replace kP := kP.below g1 kP.lt
 replace G := G.trans (g1.mono (by omega))
 have z4 := g1.size
 clear g1 hbs
 have e2 : ¬ (q + 7 * (n0 : Int) + n1 + 2 * n2 < 0) := by omega
 obtain ⟨tP, qP0, qP1, qP2, qP3, qP4⟩ := kP.q5
 go_wp2_with fail
 go_ret
 exact ⟨ret_int (by unfold markEnd; omega), G⟩
theorem szPoolM_pos' {n0 n1 n2 : Nat} (h : n0 + n1 + n2 ≤ 1048576) : szPoolM n0 n1 n2 = 1048576 - ((n0 : Int) + n1 + n2) := by simp [szPoolM, h]
theorem szPoolM_neg' {n0 n1 n2 : Nat} (h : ¬ n0 + n1 + n2 ≤ 1048576) : szPoolM n0 n1 n2 = -1 := by simp [szPoolM, h]
theorem toPool_s (ts : List T7) (ks : List Int) (fs : List F2) (A0 A1 A2 : Option Addr) (c0 c1 c2 : Nat) (tn : Int) (st : Bool) (w : World) (hl : ts.length + ks.length + fs.length ≤ 1048576) (h : InPool w ts ks fs A0 A1 A2) :
 Calls Tryz.prog 42 #[.agg #[.slice A0 ts.length c0, .slice A1 ks.length c1, .slice A2 fs.length c2, .int .i64 tn, .bool st]] w fun r w' => ∃ (B0 B1 B2 : Option Addr) (d0 d1 d2 : Nat), r = .returned (.agg #[.slice B0 ts.length d0, .slice B1 ks.length d1, .slice B2 fs.length d2, .int .i64 tn, .bool st]) ∧ Sep [] w w' [rT ts.length B0 d0 ts, rK ks.length B1 d1 ks, rF fs.length B2 d2 fs] :=
 (toPool_any ts ks fs A0 A1 A2 c0 c1 c2 tn st w hl h).mono fun r w' ⟨B0, B1, B2, d0, d1, d2, hr, ho, hb⟩ => ⟨B0, B1, B2, d0, d1, d2, hr, sepPool (Nat.le_refl _) hb ho⟩
theorem markT_s (ts : List T7) (A : Option Addr) (c : Nat) (q : Int) (w : World) (hlen : ts.length ≤ 1048576) (hq0 : 0 ≤ q) (hq1 : q ≤ 100000000) (h : (rT ts.length A c ts).here w) :
 Calls Tryz.prog 108 #[.slice A ts.length c, .int .i64 q] w fun r w' => r = .returned (.int .i64 (q + 7 * ts.length)) ∧ Sep (fps [rT ts.length A c ts]) w w' [rT ts.length A c (markT q ts.length)] :=
 (markT_any ts A c 0 w.heap.size q w hlen hq0 hq1 (OwnR.of h (Nat.le_refl _))).mono fun r w' ⟨hr, ho, hg⟩ => ⟨hr, sepOne (fun _ h => .inl h) hg ho.1⟩
theorem markK_s (ks : List Int) (A : Option Addr) (c : Nat) (q : Int) (w : World) (hlen : ks.length ≤ 1048576) (hq0 : 0 ≤ q) (hq1 : q ≤ 100000000) (h : (rK ks.length A c ks).here w) :
 Calls Tryz.prog 109 #[.slice A ks.length c, .int .i64 q] w fun r w' => r = .returned (.int .i64 (q + ks.length)) ∧ Sep (fps [rK ks.length A c ks]) w w' [rK ks.length A c (markK q ks.length)] :=
 (markK_any ks A c 0 w.heap.size q w hlen hq0 hq1 (OwnR.of h (Nat.le_refl _))).mono fun r w' ⟨hr, ho, hg⟩ => ⟨hr, sepOne (fun _ h => .inl h) hg ho.1⟩
theorem markF_s (fs : List F2) (A : Option Addr) (c : Nat) (q : Int) (w : World) (hlen : fs.length ≤ 1048576) (hq0 : 0 ≤ q) (hq1 : q ≤ 100000000) (h : (rF fs.length A c fs).here w) :
 Calls Tryz.prog 110 #[.slice A fs.length c, .int .i64 q] w fun r w' => r = .returned (.int .i64 (q + 2 * fs.length)) ∧ Sep (fps [rF fs.length A c fs]) w w' [rF fs.length A c (markF q fs.length)] :=
 (markF_any fs A c 0 w.heap.size q w hlen hq0 hq1 (OwnR.of h (Nat.le_refl _))).mono fun r w' ⟨hr, ho, hg⟩ => ⟨hr, sepOne (fun _ h => .inl h) hg ho.1⟩
set_option maxRecDepth 100000 in
set_option maxHeartbeats 2000000 in
theorem markPool_s (ts : List T7) (ks : List Int) (fs : List F2) (A0 A1 A2 : Option Addr) (c0 c1 c2 : Nat) (tn : Int) (st : Bool) (q : Int) (w : World) (hlen : ts.length + ks.length + fs.length ≤ 1048576) (hq0 : 0 ≤ q) (hq1 : q ≤ 50000000) (h : Sep (fps [rT ts.length A0 c0 ts, rK ks.length A1 c1 ks, rF fs.length A2 c2 fs]) w w [rT ts.length A0 c0 ts, rK ks.length A1 c1 ks, rF fs.length A2 c2 fs]) :
 Calls Tryz.prog 45 #[.agg #[.slice A0 ts.length c0, .slice A1 ks.length c1, .slice A2 fs.length c2, .int .i64 tn, .bool st], .int .i64 q] w fun r w' => r = .returned (.int .i64 (q + 7 * ts.length + ks.length + 2 * fs.length)) ∧ Sep (fps [rT ts.length A0 c0 ts, rK ks.length A1 c1 ks, rF fs.length A2 c2 fs]) w w' [rT ts.length A0 c0 (markT q ts.length), rK ks.length A1 c1 (markK (q + 7 * ts.length) ks.length), rF fs.length A2 c2 (markF (q + 7 * ts.length + ks.length) fs.length)] := by
 have H := hide h
 clear h
 go_enter Tryz.func45, Tryz.ntmps45
 go_wp2_with fail
 have M : Sep (fps [rT ts.length A0 c0 ts, rK ks.length A1 c1 ks, rF fs.length A2 c2 fs]) w (w.alloc (.cells #[.slice A0 ts.length c0, .slice A1 ks.length c1, .slice A2 fs.length c2, .int .i64 tn, .bool st] 35)) [.blk (w.heap.size) 35 #[.slice A0 ts.length c0, .slice A1 ks.length c1, .slice A2 fs.length c2, .int .i64 tn, .bool st], rT ts.length A0 c0 ts, rK ks.length A1 c1 ks, rF fs.length A2 c2 fs] := Sep.allocN H.out 35 #[.slice A0 ts.length c0, .slice A1 ks.length c1, .slice A2 fs.length c2, .int .i64 tn, .bool st]
 generalize w.alloc (.cells #[.slice A0 ts.length c0, .slice A1 ks.length c1, .slice A2 fs.length c2, .int .i64 tn, .bool st] 35) = W0 at M ⊢
 obtain ⟨tP, Ad, Ab, Ac, Aa, Ae⟩ := M.q5 0 rfl
 go_wp2_with fail
 replace M := M.front 1 rfl
 simp only [List.eraseIdx_cons_succ, List.eraseIdx_cons_zero] at M
 go_call (markT_s ts A0 c0 q _ (by omega) hq0 (by omega) (M.rowAt 0 rfl)) as r W1 ⟨rfl, g1⟩
 clear tP Ad Ab Ac Aa Ae
 replace M := Sep.comp (ps := [rT ts.length A0 c0 ts]) M g1
 simp only [List.cons_append, List.nil_append] at M
 clear g1
 obtain ⟨tP, Ad, Ab, Ac, Aa, Ae⟩ := M.q5 1 rfl
 go_wp2_with fail
 replace M := M.front 2 rfl
 simp only [List.eraseIdx_cons_succ, List.eraseIdx_cons_zero] at M
 go_call (markK_s ks A1 c1 (q + 7 * ts.length) _ (by omega) (by omega) (by omega) (M.rowAt 0 rfl)) as r W2 ⟨rfl, g1⟩
 clear tP Ad Ab Ac Aa Ae
 replace M := Sep.comp (ps := [rK ks.length A1 c1 ks]) M g1
 simp only [List.cons_append, List.nil_append] at M
 clear g1
 obtain ⟨tP, Ad, Ab, Ac, Aa, Ae⟩ := M.q5 2 rfl
 go_wp2_with fail
 replace M := M.front 3 rfl
 simp only [List.eraseIdx_cons_succ, List.eraseIdx_cons_zero] at M
 go_call (markF_s fs A2 c2 (q + 7 * ts.length + ks.length) _ (by omega) (by omega) (by omega) (M.rowAt 0 rfl)) as r W3 ⟨rfl, g1⟩
 clear tP Ad Ab Ac Aa Ae
 replace M := Sep.comp (ps := [rF fs.length A2 c2 fs]) M g1
 simp only [List.cons_append, List.nil_append] at M
 clear g1
 obtain ⟨tP, Ad, Ab, Ac, Aa, Ae⟩ := M.q5 3 rfl
 go_wp2_with fail
 go_ret
 refine ⟨rfl, ?_⟩
 replace M := M.front 1 rfl
 replace M := M.front 2 rfl
 exact M.take 3
set_option maxRecDepth 100000
def isInB (ts : List T7) (id s : Int) : Bool := btw id 0 ((ts.length : Int) - 1) && ((taskAt ts id).s == s)
def canB (ts : List T7) (id v tn : Int) : Bool := isInB ts id 3 && (btw v 0 9999 && decide (tn < 1000000))
theorem isInB_of {ts : List T7} {k : Nat} {x : T7} (h : ts[k]? = some x) (s : Int) : isInB ts k s = (x.s == s) := by
 have hk : k < ts.length := by
  rcases Nat.lt_or_ge k ts.length with h1 | h1
  ·exact h1
  ·rw [List.getElem?_eq_none h1] at h; cases h
 unfold isInB
 rw [taskAt_of h]
 have : btw (k : Int) 0 ((ts.length : Int) - 1) = true := by simp [btw]; omega
 rw [this, Bool.true_and]
set_option maxHeartbeats 400000 in
theorem has_any (ts : List T7) (A0 A1 A2 : Option Addr) (c0 n1 c1 n2 c2 : Nat) (tn : Int) (st : Bool) (g : Nat) (id : Int) (w : World) (hlen : ts.length ≤ 1048576) (hg : Blk w g 35 #[.slice A0 ts.length c0, .slice A1 n1 c1, .slice A2 n2 c2, .int .i64 tn, .bool st]) :
 Calls Tryz.prog 128 #[.pointer (some ⟨g, 0, none⟩), .int .i64 id] w fun r w' => r = .returned (.bool (btw id 0 ((ts.length : Int) - 1))) ∧ w = w' := by
 have H := hide hg
 clear hg
 go_enter Tryz.func128, Tryz.ntmps128
 go_wp2_with fail
 go_call (size_any ts _ A1 A2 c0 n1 c1 n2 c2 tn st g _ H.out) as r W1 ⟨rfl, rfl⟩
 go_wp2_with fail
 go_call (between_any _ _ _ _) as r W2 ⟨rfl, rfl⟩
 go_wp2_with fail
 go_ret
 exact ⟨rfl, rfl⟩
set_option maxHeartbeats 2000000 in
theorem isIn_any (ts : List T7) (A0 A1 A2 : Option Addr) (c0 n1 c1 n2 c2 : Nat) (tn : Int) (st : Bool) (g : Nat) (id s : Int) (w : World) (hlen : ts.length ≤ 1048576) (hg : Blk w g 35 #[.slice A0 ts.length c0, .slice A1 n1 c1, .slice A2 n2 c2, .int .i64 tn, .bool st]) (h : Row w A0 (tcells ts)) :
 Calls Tryz.prog 129 #[.pointer (some ⟨g, 0, none⟩), .int .i64 id, .int .i64 s] w fun r w' => r = .returned (.bool (isInB ts id s)) ∧ Below w.heap.size w w' := by
 have H := hide (⟨h, hg⟩ : _ ∧ _)
 have q0 : w.cell? ⟨g, 0, none⟩ = some (.slice A0 ts.length c0) := hg.cell 0
 by_cases hb : btw id 0 ((ts.length : Int) - 1) = true
 ·obtain ⟨k, rfl⟩ : ∃ k : Nat, id = k := ⟨id.toNat, by simp [btw] at hb; omega⟩
  have hk : k < ts.length := by simp [btw] at hb; omega
  obtain ⟨b, off, s', l, o, wt, on, v, t, rfl, _, he, hbl, y0, y1, y2, y3, y4, y5, y6⟩ := h.ts_at hk
  rw [isInB_of he]
  have hk1 : (k : Int) < (ts.length : Int) := by omega
  have hk0 : (0 : Int) ≤ (k : Int) := by omega
  clear he h hg
  go_enter Tryz.func129, Tryz.ntmps129
  go_wp2_with fail
  go_call (has_any ts _ A1 A2 c0 n1 c1 n2 c2 tn st g _ _ hlen H.out.2) as r W1 ⟨rfl, rfl⟩
  rw [hb]
  go_wp2_with fail
  go_ret
  exact ⟨rfl, Below.refl _ _⟩
 ·have hb' : btw id 0 ((ts.length : Int) - 1) = false := by simpa using hb
  have e : isInB ts id s = false := by unfold isInB; rw [hb']; rfl
  rw [e]
  clear h hg hb
  go_enter Tryz.func129, Tryz.ntmps129
  go_wp2_with fail
  go_call (has_any ts _ A1 A2 c0 n1 c1 n2 c2 tn st g _ _ hlen H.out.2) as r W1 ⟨rfl, rfl⟩
  rw [hb']
  go_wp2_with fail
  go_ret
  exact ⟨rfl, Below.refl _ _⟩
set_option maxHeartbeats 2000000 in
theorem canWake_any (ts : List T7) (A0 A1 A2 : Option Addr) (c0 n1 c1 n2 c2 : Nat) (tn : Int) (st : Bool) (g : Nat) (id v : Int) (w : World) (hlen : ts.length ≤ 1048576) (hg : Blk w g 35 #[.slice A0 ts.length c0, .slice A1 n1 c1, .slice A2 n2 c2, .int .i64 tn, .bool st]) (h : Row w A0 (tcells ts)) :
 Calls Tryz.prog 183 #[.pointer (some ⟨g, 0, none⟩), .int .i64 id, .int .i64 v] w fun r w' => r = .returned (.bool (canB ts id v tn)) ∧ Below w.heap.size w w' := by
 have H := hide (⟨h, hg⟩ : _ ∧ _)
 clear h hg
 unfold canB
 have hI := hide (isIn_any ts A0 A1 A2 c0 n1 c1 n2 c2 tn st g id 3 w hlen H.out.2 H.out.1)
 generalize isInB ts id 3 = b1 at *
 cases b1
 ·rw [Bool.false_and]
  go_enter Tryz.func183, Tryz.ntmps183
  go_wp2_with fail
  apply Calls.mono
  focus with_reducible exact hI.out
  rintro r W1 ⟨rfl, g1⟩
  go_wp2_with fail
  go_ret
  exact ⟨rfl, g1⟩
 ·rw [Bool.true_and]
  have hB := hide (between_any v 0 9999)
  generalize btw v 0 9999 = b2 at *
  cases b2
  ·rw [Bool.false_and]
   go_enter Tryz.func183, Tryz.ntmps183
   go_wp2_with fail
   apply Calls.mono
   focus with_reducible exact hI.out
   rintro r W1 ⟨rfl, g1⟩
   go_wp2_with fail
   apply Calls.mono
   focus with_reducible exact hB.out _
   rintro r W2 ⟨rfl, rfl⟩
   go_wp2_with fail
   go_ret
   exact ⟨rfl, g1⟩
  ·rw [Bool.true_and]
   go_enter Tryz.func183, Tryz.ntmps183
   go_wp2_with fail
   apply Calls.mono
   focus with_reducible exact hI.out
   rintro r W1 ⟨rfl, g1⟩
   have q3 : W1.cell? ⟨g, 3, none⟩ = some (.int .i64 tn) := (H.out.2.below g1 H.out.2.lt).cell 3
   go_wp2_with fail
   apply Calls.mono
   focus with_reducible exact hB.out _
   rintro r W2 ⟨rfl, rfl⟩
   go_wp2_with fail
   go_ret
   exact ⟨rfl, g1⟩
set_option maxHeartbeats 2000000 in
theorem takeTurn_any (ts : List T7) (A0 A1 A2 : Option Addr) (c0 n1 c1 n2 c2 : Nat) (tn : Int) (st : Bool) (g : Nat) (w : World) (t0 : -1000000000 ≤ tn) (t1 : tn ≤ 1000000000) (hg : Blk w g 35 #[.slice A0 ts.length c0, .slice A1 n1 c1, .slice A2 n2 c2, .int .i64 tn, .bool st]) :
 Calls Tryz.prog 182 #[.pointer (some ⟨g, 0, none⟩)] w fun r w' => r = .returned (.int .i64 tn) ∧ w' = w.setCell ⟨g, 3, none⟩ (.int .i64 (tn + 1)) := by
 have q3 : w.cell? ⟨g, 3, none⟩ = some (.int .i64 tn) := hg.cell 3
 have f3 : w.frozen? ⟨g, 3, none⟩ = false := hg.frozen 3
 clear hg
 go_enter Tryz.func182, Tryz.ntmps182
 go_wp2_with fail
 go_ret
 exact ⟨rfl, rfl⟩
set_option maxHeartbeats 2000000 in
theorem wake_no (ts : List T7) (A0 A1 A2 : Option Addr) (c0 n1 c1 n2 c2 : Nat) (tn : Int) (st : Bool) (g : Nat) (id v : Int) (w : World) (hlen : ts.length ≤ 1048576) (hg : Blk w g 35 #[.slice A0 ts.length c0, .slice A1 n1 c1, .slice A2 n2 c2, .int .i64 tn, .bool st]) (h : Row w A0 (tcells ts)) (hc : canB ts id v tn = false) :
 Calls Tryz.prog 151 #[.pointer (some ⟨g, 0, none⟩), .int .i64 id, .int .i64 v] w fun r w' => r = .returned (.bool false) ∧ Below w.heap.size w w' := by
 have hC := hide (canWake_any ts A0 A1 A2 c0 n1 c1 n2 c2 tn st g id v w hlen hg h)
 rw [hc] at hC
 clear h hg hc
 go_enter Tryz.func151, Tryz.ntmps151
 go_wp2_with fail
 apply Calls.mono
 focus with_reducible exact hC.out
 rintro r W1 ⟨rfl, g1⟩
 go_wp2_with fail
 go_ret
 exact ⟨rfl, g1⟩
set_option maxHeartbeats 2000000 in
theorem wake_yes (ts : List T7) (A0 A1 A2 : Option Addr) (c0 n1 c1 n2 c2 : Nat) (tn : Int) (st : Bool) (g k : Nat) (v : Int) (s l o wt on v0 t : Int) (w : World) (hlen : ts.length ≤ 1048576) (t0 : -1000000 ≤ tn) (ht : ts[k]? = some ⟨s, l, o, wt, on, v0, t⟩) (h : Sep (fps [.blk g 35 #[.slice A0 ts.length c0, .slice A1 n1 c1, .slice A2 n2 c2, .int .i64 tn, .bool st], rT ts.length A0 c0 ts]) w w [.blk g 35 #[.slice A0 ts.length c0, .slice A1 n1 c1, .slice A2 n2 c2, .int .i64 tn, .bool st], rT ts.length A0 c0 ts]) (hc : canB ts k v tn = true) :
 Calls Tryz.prog 151 #[.pointer (some ⟨g, 0, none⟩), .int .i64 k, .int .i64 v] w fun r w' => r = .returned (.bool true) ∧ Sep (fps [.blk g 35 #[.slice A0 ts.length c0, .slice A1 n1 c1, .slice A2 n2 c2, .int .i64 tn, .bool st], rT ts.length A0 c0 ts]) w w' [.blk g 35 #[.slice A0 ts.length c0, .slice A1 n1 c1, .slice A2 n2 c2, .int .i64 (tn + 1), .bool st], rT ts.length A0 c0 (ts.set k (wakeT ⟨s, l, o, wt, on, v0, t⟩ tn v))] := by
 have hC := hide (canWake_any ts A0 A1 A2 c0 n1 c1 n2 c2 tn st g k v w hlen (h.blk 0 rfl) (h.rowS 1 rfl))
 rw [hc] at hC
 have t1 : tn ≤ 1000000 := by simp [canB] at hc; omega
 clear hc
 have hkl : k < ts.length := by
  rcases Nat.lt_or_ge k ts.length with h1 | h1
  ·exact h1
  ·rw [List.getElem?_eq_none h1] at ht; cases ht
 have hki : (k : Int) < (ts.length : Int) := by omega
 have hk0 : (0 : Int) ≤ (k : Int) := by omega
 have hr : (rT ts.length A0 c0 ts).here w := h.rowAt 1 rfl
 obtain ⟨gr, rfl, hgl, hfz⟩ := rT_form hr (show 0 < ts.length by omega)
 clear hr
 have HT := hide ht
 clear ht
 have H := hide h
 clear h
 go_enter Tryz.func151, Tryz.ntmps151
 go_wp2_with fail
 apply Calls.mono
 focus with_reducible exact hC.out
 rintro r W1 ⟨rfl, g1⟩
 have M := Sep.call H.out g1
 have q0 : W1.cell? ⟨g, 0, none⟩ = some (.slice (some ⟨gr, 0, none⟩) ts.length c0) := M.cell 0 0 rfl
 have hfz1 : ∀ j, W1.frozen? ⟨gr, j, none⟩ = false := fun j => Own.fz (M.rowAt 1 rfl) j
 have fz0 : W1.frozen? ⟨gr, k * 7, none⟩ = false := hfz1 _
 have fz3 : W1.frozen? ⟨gr, k * 7 + 3, none⟩ = false := hfz1 _
 have fz4 : W1.frozen? ⟨gr, k * 7 + 4, none⟩ = false := hfz1 _
 have fz5 : W1.frozen? ⟨gr, k * 7 + 5, none⟩ = false := hfz1 _
 obtain ⟨s', l', o', wt', on', v', t', ht', y0, y1, y2, y3, y4, y5, y6⟩ := Own.t7 (M.rowAt 1 rfl) hkl
 clear hfz hfz1 ht' y1 y2 y6
 go_wp2_with fail
 have M2 := (M.putT2 1 rfl k 0 3 (by omega) (by omega) ⟨s, l, o, wt, on, v0, t⟩ 1 0 HT.out).putT2 1 rfl k 4 5 (by omega) (by omega) ⟨1, l, o, 0, on, v0, t⟩ 0 v (List.getElem?_set_self hkl)
 simp only [List.set_set] at M2
 replace M2 : Sep (fps [.blk g 35 #[.slice (some ⟨gr, 0, none⟩) ts.length c0, .slice A1 n1 c1, .slice A2 n2 c2, .int .i64 tn, .bool st], rT ts.length (some ⟨gr, 0, none⟩) c0 ts]) w ((((W1.setCell ⟨gr, k * 7, none⟩ (.int .i64 1)).setCell ⟨gr, k * 7 + 3, none⟩ (.int .i64 0)).setCell ⟨gr, k * 7 + 4, none⟩ (.int .i64 0)).setCell ⟨gr, k * 7 + 5, none⟩ (.int .i64 v)) [.blk g 35 #[.slice (some ⟨gr, 0, none⟩) ts.length c0, .slice A1 n1 c1, .slice A2 n2 c2, .int .i64 tn, .bool st], rT ts.length (some ⟨gr, 0, none⟩) c0 (ts.set k ⟨1, l, o, 0, 0, v, t⟩)] := M2
 clear M q0 fz0 fz3 fz4 fz5 y0 y3 y4 y5
 generalize (((W1.setCell ⟨gr, k * 7, none⟩ (.int .i64 1)).setCell ⟨gr, k * 7 + 3, none⟩ (.int .i64 0)).setCell ⟨gr, k * 7 + 4, none⟩ (.int .i64 0)).setCell ⟨gr, k * 7 + 5, none⟩ (.int .i64 v) = W2 at M2 ⊢
 go_call (takeTurn_any ts (some ⟨gr, 0, none⟩) A1 A2 c0 n1 c1 n2 c2 tn st g _ (by omega) (by omega) (M2.blk 0 rfl)) as r W3 ⟨rfl, rfl⟩
 replace M2 := M2.set 0 rfl 3 (.int .i64 (tn + 1))
 generalize W2.setCell ⟨g, 3, none⟩ (.int .i64 (tn + 1)) = W3 at M2 ⊢
 have fz6 : W3.frozen? ⟨gr, k * 7 + 6, none⟩ = false := Own.fz (M2.rowAt 1 rfl) _
 obtain ⟨s', l', o', wt', on', v', t', ht', y0, y1, y2, y3, y4, y5, y6⟩ := Own.t7 (M2.rowAt 1 rfl) (show k < (ts.set k ⟨1, l, o, 0, 0, v, t⟩).length by simpa using hkl)
 clear ht' y0 y1 y2 y3 y4 y5
 go_wp2_with fail
 go_ret
 have M3 := M2.putT 1 rfl k 6 (by omega) ⟨1, l, o, 0, 0, v, t⟩ tn (List.getElem?_set_self hkl)
 simp only [List.set_set] at M3
 exact ⟨rfl, M3⟩
set_option maxHeartbeats 2000000 in
theorem park_yes (a b c d e : Int) (ts : List T7) (ks : List Int) (fs : List F2) (A0 A1 A2 : Option Addr) (c0 c1 c2 : Nat) (tn : Int) (st : Bool) (g k : Nat) (pw po : Int) (s l o wt on v0 t : Int) (w : World) (hlen : ts.length ≤ 1048576) (hk1 : ks.length ≤ 1048576) (hf1 : fs.length ≤ 1048576) (t0 : -1000000 ≤ tn) (t1 : tn ≤ 1000000) (ht : ts[k]? = some ⟨s, l, o, wt, on, v0, t⟩) (h : Sep (fps [.blk g 35 #[.slice A0 ts.length c0, .slice A1 ks.length c1, .slice A2 fs.length c2, .int .i64 tn, .bool st], rT ts.length A0 c0 ts, rK ks.length A1 c1 ks, rF fs.length A2 c2 fs]) w w [.blk g 35 #[.slice A0 ts.length c0, .slice A1 ks.length c1, .slice A2 fs.length c2, .int .i64 tn, .bool st], rT ts.length A0 c0 ts, rK ks.length A1 c1 ks, rF fs.length A2 c2 fs]) (hc : isInB ts k 2 = true) :
 Calls Tryz.prog 169 #[.pointer (some ⟨g, 0, none⟩), .agg #[.int .i64 a, .int .i64 b, .int .i64 c, .int .i64 d, .int .i64 e], .int .i64 k, .int .i64 pw, .int .i64 po] w fun r w' => r = .returned (.bool (poolB a b c d e (ts.set k (parkT ⟨s, l, o, wt, on, v0, t⟩ tn pw po)) ks fs (tn + 1))) ∧ Sep (fps [.blk g 35 #[.slice A0 ts.length c0, .slice A1 ks.length c1, .slice A2 fs.length c2, .int .i64 tn, .bool st], rT ts.length A0 c0 ts, rK ks.length A1 c1 ks, rF fs.length A2 c2 fs]) w w' [.blk g 35 #[.slice A0 ts.length c0, .slice A1 ks.length c1, .slice A2 fs.length c2, .int .i64 (tn + 1), .bool st], rT ts.length A0 c0 (ts.set k (parkT ⟨s, l, o, wt, on, v0, t⟩ tn pw po)), rK ks.length A1 c1 ks, rF fs.length A2 c2 fs] := by
 have hkl : k < ts.length := by
  rcases Nat.lt_or_ge k ts.length with h1 | h1
  ·exact h1
  ·rw [List.getElem?_eq_none h1] at ht; cases ht
 obtain ⟨us, hus⟩ : ∃ us, us = ts.set k (parkT ⟨s, l, o, wt, on, v0, t⟩ tn pw po) := ⟨_, rfl⟩
 obtain ⟨bb, hbb⟩ : ∃ bb, bb = poolB a b c d e us ks fs (tn + 1) := ⟨_, rfl⟩
 rw [← hus, ← hbb]
 have HB := hide (⟨hus, show us.length = ts.length from by rw [hus]; simp, hbb⟩ : _ ∧ _ ∧ _)
 clear hus hbb
 have hki : (k : Int) < (ts.length : Int) := by omega
 have hk0 : (0 : Int) ≤ (k : Int) := by omega
 have hr : (rT ts.length A0 c0 ts).here w := h.rowAt 1 rfl
 obtain ⟨gr, rfl, hgl, hfz⟩ := rT_form hr (show 0 < ts.length by omega)
 clear hr hfz
 have HT := hide ht
 clear ht
 have H := hide h
 clear h
 go_enter Tryz.func169, Tryz.ntmps169
 go_wp2_with fail
 have M := Sep.allocN H.out 28 #[.int .i64 a, .int .i64 b, .int .i64 c, .int .i64 d, .int .i64 e]
 generalize w.alloc (.cells #[.int .i64 a, .int .i64 b, .int .i64 c, .int .i64 d, .int .i64 e] 28) = W0 at M ⊢
 go_call (isIn_any ts (some ⟨gr, 0, none⟩) A1 A2 c0 ks.length c1 fs.length c2 tn st g k 2 _ hlen (M.blk 1 rfl) (M.rowS 2 rfl)) as r W1 ⟨rfl, g1⟩
 rw [hc]
 replace M := M.call g1
 clear g1
 have q0 : W1.cell? ⟨g, 0, none⟩ = some (.slice (some ⟨gr, 0, none⟩) ts.length c0) := M.cell 1 0 rfl
 have hfz1 : ∀ j, W1.frozen? ⟨gr, j, none⟩ = false := fun j => Own.fz (M.rowAt 2 rfl) j
 have fz0 : W1.frozen? ⟨gr, k * 7, none⟩ = false := hfz1 _
 have fz2 : W1.frozen? ⟨gr, k * 7 + 2, none⟩ = false := hfz1 _
 have fz3 : W1.frozen? ⟨gr, k * 7 + 3, none⟩ = false := hfz1 _
 have fz4 : W1.frozen? ⟨gr, k * 7 + 4, none⟩ = false := hfz1 _
 obtain ⟨s', l', o', wt', on', v', t', ht', y0, y1, y2, y3, y4, y5, y6⟩ := Own.t7 (M.rowAt 2 rfl) hkl
 clear hfz1 ht' y1 y5 y6
 go_wp2_with fail
 have M2 := (M.putT2 2 rfl k 0 2 (by omega) (by omega) ⟨s, l, o, wt, on, v0, t⟩ 3 (-1) HT.out).putT2 2 rfl k 3 4 (by omega) (by omega) ⟨3, l, -1, wt, on, v0, t⟩ pw po (List.getElem?_set_self hkl)
 simp only [List.set_set] at M2
 replace M2 : Sep (fps [.blk g 35 #[.slice (some ⟨gr, 0, none⟩) ts.length c0, .slice A1 ks.length c1, .slice A2 fs.length c2, .int .i64 tn, .bool st], rT ts.length (some ⟨gr, 0, none⟩) c0 ts, rK ks.length A1 c1 ks, rF fs.length A2 c2 fs]) w ((((W1.setCell ⟨gr, k * 7, none⟩ (.int .i64 3)).setCell ⟨gr, k * 7 + 2, none⟩ (.int .i64 (-1))).setCell ⟨gr, k * 7 + 3, none⟩ (.int .i64 pw)).setCell ⟨gr, k * 7 + 4, none⟩ (.int .i64 po)) [.blk w.heap.size 28 #[.int .i64 a, .int .i64 b, .int .i64 c, .int .i64 d, .int .i64 e], .blk g 35 #[.slice (some ⟨gr, 0, none⟩) ts.length c0, .slice A1 ks.length c1, .slice A2 fs.length c2, .int .i64 tn, .bool st], rT ts.length (some ⟨gr, 0, none⟩) c0 (ts.set k ⟨3, l, -1, pw, po, v0, t⟩), rK ks.length A1 c1 ks, rF fs.length A2 c2 fs] := M2
 clear M q0 fz0 fz2 fz3 fz4 y0 y2 y3 y4
 generalize (((W1.setCell ⟨gr, k * 7, none⟩ (.int .i64 3)).setCell ⟨gr, k * 7 + 2, none⟩ (.int .i64 (-1))).setCell ⟨gr, k * 7 + 3, none⟩ (.int .i64 pw)).setCell ⟨gr, k * 7 + 4, none⟩ (.int .i64 po) = W2 at M2 ⊢
 go_call (takeTurn_any ts (some ⟨gr, 0, none⟩) A1 A2 c0 ks.length c1 fs.length c2 tn st g _ (by omega) (by omega) (M2.blk 1 rfl)) as r W3 ⟨rfl, rfl⟩
 replace M2 := M2.set 1 rfl 3 (.int .i64 (tn + 1))
 generalize W2.setCell ⟨g, 3, none⟩ (.int .i64 (tn + 1)) = W3 at M2 ⊢
 have fz6 : W3.frozen? ⟨gr, k * 7 + 6, none⟩ = false := Own.fz (M2.rowAt 2 rfl) _
 obtain ⟨s', l', o', wt', on', v', t', ht', y0, y1, y2, y3, y4, y5, y6⟩ := Own.t7 (M2.rowAt 2 rfl) (show k < (ts.set k ⟨3, l, -1, pw, po, v0, t⟩).length by simpa using hkl)
 clear ht' y0 y1 y2 y3 y4 y5
 have M3 := M2.putT 2 rfl k 6 (by omega) ⟨3, l, -1, pw, po, v0, t⟩ tn (List.getElem?_set_self hkl)
 simp only [List.set_set] at M3
 have hP0 : w.heap.size < W3.heap.size := M2.lt 0 rfl
 have hne : ¬ w.heap.size = gr := by omega
 have qP0 : W3.cell? ⟨w.heap.size, 0, none⟩ = some (.int .i64 a) := M2.cell 0 0 rfl
 have qP1 : W3.cell? ⟨w.heap.size, 1, none⟩ = some (.int .i64 b) := M2.cell 0 1 rfl
 have qP2 : W3.cell? ⟨w.heap.size, 2, none⟩ = some (.int .i64 c) := M2.cell 0 2 rfl
 have qP3 : W3.cell? ⟨w.heap.size, 3, none⟩ = some (.int .i64 d) := M2.cell 0 3 rfl
 have qP4 : W3.cell? ⟨w.heap.size, 4, none⟩ = some (.int .i64 e) := M2.cell 0 4 rfl
 go_wp2_with fail
 replace M3 : Sep (fps [.blk g 35 #[.slice (some ⟨gr, 0, none⟩) ts.length c0, .slice A1 ks.length c1, .slice A2 fs.length c2, .int .i64 tn, .bool st], rT ts.length (some ⟨gr, 0, none⟩) c0 ts, rK ks.length A1 c1 ks, rF fs.length A2 c2 fs]) w (W3.setCell ⟨gr, k * 7 + 6, none⟩ (.int .i64 tn)) [.blk w.heap.size 28 #[.int .i64 a, .int .i64 b, .int .i64 c, .int .i64 d, .int .i64 e], .blk g 35 #[.slice (some ⟨gr, 0, none⟩) ts.length c0, .slice A1 ks.length c1, .slice A2 fs.length c2, .int .i64 (tn + 1), .bool st], rT ts.length (some ⟨gr, 0, none⟩) c0 (ts.set k (parkT ⟨s, l, o, wt, on, v0, t⟩ tn pw po)), rK ks.length A1 c1 ks, rF fs.length A2 c2 fs] := M3
 generalize W3.setCell ⟨gr, k * 7 + 6, none⟩ (.int .i64 tn) = W4 at M3 ⊢
 rw [← HB.out.1, ← HB.out.2.1] at M3
 have hR := pright_any a b c d e us ks fs (some ⟨gr, 0, none⟩) A1 A2 c0 c1 c2 (tn + 1) st g W4 hk1 hf1 (M3.blk 1 rfl) ⟨M3.rowS 2 rfl, M3.rowS 3 rfl, M3.rowS 4 rfl⟩
 rw [← HB.out.2.2] at hR
 clear HT M2 fz6 y6
 apply Calls.mono
 focus with_reducible exact hR
 clear hR
 rintro r W5 ⟨rfl, g5⟩
 replace M3 := M3.call g5
 rw [HB.out.2.1] at M3
 clear g5
 go_wp2_with fail
 go_ret
 exact ⟨rfl, M3.tail⟩
theorem l6May_v (a b c d e : Int) (ts : List T7) (ks : List Int) (fs : List F2) (A0 A1 A2 : Option Addr) (c0 c1 c2 : Nat) (tn : Int) (st : Bool) (wk : Int) (z : Bool) (hz : mayB a b c d e ts ks fs tn wk = z) (w : World) (ht : ts.length ≤ 1048576) (hk : ks.length ≤ 1048576) (hf : fs.length ≤ 1048576) (h : InPool w ts ks fs A0 A1 A2) :
 Calls Tryz.prog 51 #[.agg #[.int .i64 a, .int .i64 b, .int .i64 c, .int .i64 d, .int .i64 e], .agg #[.slice A0 ts.length c0, .slice A1 ks.length c1, .slice A2 fs.length c2, .int .i64 tn, .bool st], .int .i64 wk] w fun r w' => r = .returned (.bool z) ∧ Below w.heap.size w w' := hz ▸ l6May_any a b c d e ts ks fs A0 A1 A2 c0 c1 c2 tn st wk w ht hk hf h
theorem l5Has_v (ts : List T7) (A0 A1 A2 : Option Addr) (c0 n1 c1 n2 c2 : Nat) (tn : Int) (st : Bool) (id : Int) (z : Bool) (hz : btw id 0 (ts.length - 1) = z) (w : World) (hlen : ts.length ≤ 1048576) :
 Calls Tryz.prog 71 #[.agg #[.slice A0 ts.length c0, .slice A1 n1 c1, .slice A2 n2 c2, .int .i64 tn, .bool st], .int .i64 id] w fun r w' => r = .returned (.bool z) ∧ Below w.heap.size w w' := hz ▸ l5Has_any ts A0 A1 A2 c0 n1 c1 n2 c2 tn st id w hlen
theorem sLevelIn_v (a b c d e n : Int) (z : Bool) (hz : levelB a b c d e n = z) (w : World) : Calls Tryz.prog 52 #[.agg #[.int .i64 a, .int .i64 b, .int .i64 c, .int .i64 d, .int .i64 e], .int .i64 n] w fun r w' => r = .returned (.bool z) ∧ Below w.heap.size w w' := hz ▸ sLevelIn_any a b c d e n w
theorem sRunBy_v (ts : List T7) (A0 A1 A2 : Option Addr) (c0 n1 c1 n2 c2 : Nat) (tn : Int) (st : Bool) (wk z : Int) (hz : runM ts wk 0 = z) (w : World) (hlen : ts.length ≤ 1048576) (h0 : Row w A0 (tcells ts)) :
 Calls Tryz.prog 18 #[.agg #[.slice A0 ts.length c0, .slice A1 n1 c1, .slice A2 n2 c2, .int .i64 tn, .bool st], .int .i64 wk] w fun r w' => r = .returned (.int .i64 z) ∧ Below w.heap.size w w' := hz ▸ sRunBy_any ts A0 A1 A2 c0 n1 c1 n2 c2 tn st wk w hlen h0
end Go.Proofs.YtfkdfkoigojciaaGreatDoor
