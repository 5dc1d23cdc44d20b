import Derived.Test.YtfkdfkoigojciaaGreatDoorQU03
import Derived.Test.YtfkdfkoigojciaaGreatDoorQU10
import Derived.Test.YtfkdfkoigojciaaGreatDoorQU11
import Derived.Test.YtfkdfkoigojciaaGreatDoorQU07

namespace Go.Proofs.YtfkdfkoigojciaaGreatDoor
open Go.RowKit
set_option linter.unusedVariables false
variable (a b c d e : Int) (ts : List T7) (ks : List Int) (fs : List F2) (A0 A1 A2 : Option Addr) (c0 c1 c2 : Nat) (tn : Int) (st : Bool)
def rT (n : Nat) (A : Option Addr) (c : Nat) (ts : List T7) : Res := .row 45 7 (.slice A n c) n (tcells ts)
def rK (n : Nat) (A : Option Addr) (c : Nat) (ks : List Int) : Res := .row 2 1 (.slice A n c) n (icells ks)
def rF (n : Nat) (A : Option Addr) (c : Nat) (fs : List F2) : Res := .row 103 2 (.slice A n c) n (fcells fs)
def GaveS (ps : List Res) (w : World) (o : OutP) (r : Ending) (w' : World) : Prop :=
 ∃ (B0 B1 B2 : Option Addr) (d0 d1 d2 : Nat), r = .returned (.tuple #[.agg #[.slice B0 o.ts.length d0, .slice B1 o.ks.length d1, .slice B2 o.fs.length d2, .int .i64 o.tn, .bool o.st], .agg #[.int .i64 o.rp, .int .i64 o.ou]]) ∧ Sep (fps ps) w w' [rT o.ts.length B0 d0 o.ts, rK o.ks.length B1 d1 o.ks, rF o.fs.length B2 d2 o.fs]
theorem sepPool {w W : World} {lo hi : Nat} {ts : List T7} {ks : List Int} {fs : List F2} {A0 A1 A2 : Option Addr} {c0 c1 c2 : Nat} (hlo : w.heap.size ≤ lo) (hb : Below w.heap.size w W) (h : OwnPool W lo hi ts ks fs A0 A1 A2 c0 c1 c2) : Sep [] w W [rT ts.length A0 c0 ts, rK ks.length A1 c1 ks, rF fs.length A2 c2 fs] :=
 sepRows3 hlo hb h.1.1 h.2.1.1 h.2.2.1 (by decide) (by decide) (by decide)
theorem l3Copy_s (ts : List T7) (ks : List Int) (fs : List F2) (A0 A1 A2 : Option Addr) (c0 c1 c2 : Nat) (tn : Int) (st : Bool) (w : World) (l0 : ts.length ≤ 1048576) (l1 : ks.length ≤ 1048576) (l2 : fs.length ≤ 1048576) (h : InPool w ts ks fs A0 A1 A2) :
 Calls Tryz.prog 54 #[.agg #[.slice A0 ts.length c0, .slice A1 ks.length c1, .slice A2 fs.length c2, .int .i64 tn, .bool st]] w fun r w' => ∃ (B0 B1 B2 : Option Addr) (d0 d1 d2 : Nat), r = .returned (.agg #[.slice B0 ts.length d0, .slice B1 ks.length d1, .slice B2 fs.length d2, .int .i64 tn, .bool st]) ∧ Sep [] w w' [rT ts.length B0 d0 ts, rK ks.length B1 d1 ks, rF fs.length B2 d2 fs] :=
 (l3Copy_any ts ks fs A0 A1 A2 c0 c1 c2 tn st w l0 l1 l2 h).mono fun r w' ⟨B0, B1, B2, d0, d1, d2, hr, ho, hb⟩ => ⟨B0, B1, B2, d0, d1, d2, hr, sepPool (Nat.le_refl _) hb ho⟩
theorem l6No_s (a b c d e : Int) (ts : List T7) (ks : List Int) (fs : List F2) (A0 A1 A2 : Option Addr) (c0 c1 c2 : Nat) (tn : Int) (st : Bool) (rp : Int) (w : World) (ht : ts.length ≤ 1048576) (hk : ks.length ≤ 1048576) (hf : fs.length ≤ 1048576) (h : InPool w ts ks fs A0 A1 A2) :
 Calls Tryz.prog 53 #[.agg #[.int .i64 a, .int .i64 b, .int .i64 c, .int .i64 d, .int .i64 e], .agg #[.slice A0 ts.length c0, .slice A1 ks.length c1, .slice A2 fs.length c2, .int .i64 tn, .bool st], .int .i64 rp] w (GaveS [] w (noO (poolB a b c d e ts ks fs tn) ts ks fs tn st rp)) :=
 (l6No_any a b c d e ts ks fs A0 A1 A2 c0 c1 c2 tn st rp w ht hk hf h).mono fun r w' ⟨B0, B1, B2, d0, d1, d2, hr, ho, hb⟩ => ⟨B0, B1, B2, d0, d1, d2, hr, sepPool (Nat.le_refl _) hb ho⟩
theorem l6Done_s (n0 n1 n2 : Nat) (tsx : List T7) (ksx : List Int) (fsx : List F2) (A0x A1x A2x : Option Addr) (c0x c1x c2x : Nat) (tnx : Int) (stx : Bool) (rp ou : Int) {S : List Nat} {w0 : World} {rs : List Res} (w : World) (e0 : tsx.length = n0) (e1 : ksx.length = n1) (e2 : fsx.length = n2) (ho : poolB a b c d e ts ks fs tn = true) (ht : ts.length ≤ 1048576) (hk : ks.length ≤ 1048576) (hf : fs.length ≤ 1048576) (htx : n0 ≤ 1048576) (hkx : n1 ≤ 1048576) (hfx : n2 ≤ 1048576) (h : InPool w ts ks fs A0 A1 A2) (hM : Sep S w0 w ([rT n0 A0x c0x tsx, rK n1 A1x c1x ksx, rF n2 A2x c2x fsx] ++ rs)) :
 Calls Tryz.prog 56 #[qF a b c d e, qP ts ks fs A0 A1 A2 c0 c1 c2 tn st, .agg #[.slice A0x n0 c0x, .slice A1x n1 c1x, .slice A2x n2 c2x, .int .i64 tnx, .bool stx], .int .i64 rp, .int .i64 ou] w (GaveS [rT n0 A0x c0x tsx, rK n1 A1x c1x ksx, rF n2 A2x c2x fsx] w (doneO (poolB a b c d e tsx ksx fsx tnx) ts ks fs tn st tsx ksx fsx tnx stx rp ou)) := by
 unfold qF qP
 subst e0 e1 e2
 have hx : InPool w tsx ksx fsx A0x A1x A2x := ⟨Row.of_own (hM.rowAt 0 rfl), Row.of_own (hM.rowAt 1 rfl), Row.of_own (hM.rowAt 2 rfl)⟩
 by_cases hz : poolB a b c d e tsx ksx fsx tnx = true
 ·rw [hz]
  exact (l6Done_yes a b c d e ts ks fs A0 A1 A2 c0 c1 c2 tn st tsx ksx fsx A0x A1x A2x c0x c1x c2x tnx stx rp ou w ho hz ht hk hf htx hkx hfx h hx).mono fun r w' hr => ⟨_, _, _, _, _, _, hr.1, hM.same hr.2⟩
 ·have hz' : poolB a b c d e tsx ksx fsx tnx = false := by simpa using hz
  rw [hz']
  exact (l6Done_full a b c d e ts ks fs A0 A1 A2 c0 c1 c2 tn st tsx ksx fsx A0x A1x A2x c0x c1x c2x tnx stx rp ou w ho hz' ht hk hf htx hkx hfx h hx).mono fun r w' hr => by
   obtain ⟨B0, B1, B2, d0, d1, d2, he, hw, hb⟩ := hr
   exact ⟨B0, B1, B2, d0, d1, d2, he, (sepPool (Nat.le_refl _) hb hw).wideS (by simp)⟩
theorem sep_of_within {P : Program} {f : FuncId} {args : Array Value} {w : World} {R : Ending → Prop} {e : TypeId} {size n : Nat} {v : Value} {xs xs' : List Value} (h : w.ownsRow 0 e size v n xs) (k : ∀ lo hi, hi ≤ w.heap.size → OwnR w lo hi e size v n xs → Calls P f args w fun r w' => R r ∧ OwnR w' lo hi e size v n xs' ∧ Within lo hi w w') :
 Calls P f args w fun r w' => R r ∧ Sep (fps [.row e size v n xs]) w w' [.row e size v n xs'] := by
 rcases hv : v.ownBlock with _ | g
 ·refine (k 0 0 (Nat.zero_le _) ⟨h, fun k hk => by rw [hv] at hk; cases hk⟩).mono fun r w' hr => ⟨hr.1, sepOne (fun g hg => .inl hg) ?_ hr.2.1.1⟩
  rw [hv]
  exact ⟨hr.2.2.1, hr.2.2.2.1, hr.2.2.2.2.1, hr.2.2.2.2.2.1, fun i hi _ => hr.2.2.2.2.2.2 i hi (.inr (Nat.zero_le _))⟩
 ·have hl := (World.ownsRow.lt h g hv).2
  refine (k g (g + 1) (by omega) ⟨own_raise h (fun x hx => by rw [hv] at hx; injection hx with hx; omega), fun x hx => by rw [hv] at hx; injection hx with hx; omega⟩).mono fun r w' hr => ⟨hr.1, sepOne (fun g hg => .inl hg) ?_ (Own.lower hr.2.1.1 (Nat.zero_le _))⟩
  rw [hv]
  exact ⟨hr.2.2.1, hr.2.2.2.1, hr.2.2.2.2.1, hr.2.2.2.2.2.1, fun i hi hne => hr.2.2.2.2.2.2 i hi (by rcases Nat.lt_or_ge i g with h1 | h1; exact .inl h1; exact .inr (by rcases Nat.lt_or_ge g i with h2 | h2; exact h2; exact absurd (by rw [Nat.le_antisymm h1 h2]) hne))⟩
theorem l5Wake_s (ts : List T7) (A0 A1 A2 : Option Addr) (c0 n1 c1 n2 c2 : Nat) (tn : Int) (st : Bool) (k : Nat) (s l o wt on v0 t : Int) (v : Int) (w : World) (hlen : ts.length ≤ 1048576) (t0 : -1000000000 ≤ tn) (t1 : tn ≤ 1000000000) (ht : ts[k]? = some ⟨s, l, o, wt, on, v0, t⟩) (h : (rT ts.length A0 c0 ts).here w) :
 Calls Tryz.prog 98 #[.agg #[.slice A0 ts.length c0, .slice A1 n1 c1, .slice A2 n2 c2, .int .i64 tn, .bool st], .int .i64 k, .int .i64 v] w fun r w' => r = .returned (.agg #[.slice A0 ts.length c0, .slice A1 n1 c1, .slice A2 n2 c2, .int .i64 (tn + 1), .bool st]) ∧ Sep (fps [rT ts.length A0 c0 ts]) w w' [rT ts.length A0 c0 (ts.set k (wakeT ⟨s, l, o, wt, on, v0, t⟩ tn v))] :=
 sep_of_within h fun lo hi hh ho => l5Wake_any ts A0 A1 A2 c0 n1 c1 n2 c2 tn st k s l o wt on v0 t v lo hi w hh hlen t0 t1 ht ho
theorem l5Park_s (ts : List T7) (A0 A1 A2 : Option Addr) (c0 n1 c1 n2 c2 : Nat) (tn : Int) (st : Bool) (k : Nat) (s l o wt on v0 t : Int) (pw po : Int) (w : World) (hlen : ts.length ≤ 1048576) (t0 : -1000000000 ≤ tn) (t1 : tn ≤ 1000000000) (ht : ts[k]? = some ⟨s, l, o, wt, on, v0, t⟩) (h : (rT ts.length A0 c0 ts).here w) :
 Calls Tryz.prog 74 #[.agg #[.slice A0 ts.length c0, .slice A1 n1 c1, .slice A2 n2 c2, .int .i64 tn, .bool st], .int .i64 k, .int .i64 pw, .int .i64 po] w fun r w' => r = .returned (.agg #[.slice A0 ts.length c0, .slice A1 n1 c1, .slice A2 n2 c2, .int .i64 (tn + 1), .bool st]) ∧ Sep (fps [rT ts.length A0 c0 ts]) w w' [rT ts.length A0 c0 (ts.set k (parkT ⟨s, l, o, wt, on, v0, t⟩ tn pw po))] :=
 sep_of_within h fun lo hi hh ho => l5Park_any ts A0 A1 A2 c0 n1 c1 n2 c2 tn st k s l o wt on v0 t pw po lo hi w hh hlen t0 t1 ht ho
theorem l5WakeAll_s (ts : List T7) (n : Nat) (hn : ts.length = n) (A0 A1 A2 : Option Addr) (c0 n1 c1 n2 c2 : Nat) (tn : Int) (st : Bool) (wa oa v : Int) (w : World) (hlen : n ≤ 1048576) (t0 : -500000000 ≤ tn) (t1 : tn ≤ 500000000) (h : (rT n A0 c0 ts).here w) :
 Calls Tryz.prog 75 #[.agg #[.slice A0 n c0, .slice A1 n1 c1, .slice A2 n2 c2, .int .i64 tn, .bool st], .int .i64 wa, .int .i64 oa, .int .i64 v] w fun r w' => r = .returned (.tuple #[.agg #[.slice A0 n c0, .slice A1 n1 c1, .slice A2 n2 c2, .int .i64 (tn + (waitersM ts wa oa).length), .bool st], .int .i64 ((waitersM ts wa oa).length : Nat)]) ∧ Sep (fps [rT n A0 c0 ts]) w w' [rT n A0 c0 (wakeAllT (waitersM ts wa oa) ts tn v)] := by
 subst hn
 exact sep_of_within h fun lo hi hh ho => l5WakeAll_any ts A0 A1 A2 c0 n1 c1 n2 c2 tn st wa oa v lo hi w hh hlen t0 t1 ho
def T7.put (x : T7) (j : Nat) (u : Int) : T7 := match j with
 | 0 => ⟨u, x.l, x.o, x.wt, x.on, x.v, x.t⟩
 | 1 => ⟨x.s, u, x.o, x.wt, x.on, x.v, x.t⟩
 | 2 => ⟨x.s, x.l, u, x.wt, x.on, x.v, x.t⟩
 | 3 => ⟨x.s, x.l, x.o, u, x.on, x.v, x.t⟩
 | 4 => ⟨x.s, x.l, x.o, x.wt, u, x.v, x.t⟩
 | 5 => ⟨x.s, x.l, x.o, x.wt, x.on, u, x.t⟩
 | _ => ⟨x.s, x.l, x.o, x.wt, x.on, x.v, u⟩
theorem tcells_setput (ts : List T7) (k j : Nat) (hj : j < 7) (x : T7) (u : Int) (hk : ts[k]? = some x) : (tcells ts).set (k * 7 + j) (.int .i64 u) = tcells (ts.set k (x.put j u)) := by
 obtain ⟨s, l, o, wt, on, v, t⟩ := x
 have hj7 : j = 0 ∨ j = 1 ∨ j = 2 ∨ j = 3 ∨ j = 4 ∨ j = 5 ∨ j = 6 := by omega
 rcases hj7 with rfl | rfl | rfl | rfl | rfl | rfl | rfl
 ·exact tput_s ts k s l o wt on v t u hk
 ·exact tput_l ts k s l o wt on v t u hk
 ·exact tput_o ts k s l o wt on v t u hk
 ·exact tput_wt ts k s l o wt on v t u hk
 ·exact tput_on ts k s l o wt on v t u hk
 ·exact tput_v ts k s l o wt on v t u hk
 ·exact tput_t ts k s l o wt on v t u hk
theorem Sep.putT {S : List Nat} {w W : World} {rs : List Res} (h : Sep S w W rs) (i : Nat) {g n c : Nat} {ts : List T7} (hi : rs[i]? = some (rT n (some ⟨g, 0, none⟩) c ts)) (k j : Nat) (hj : j < 7) (x : T7) (u : Int) (hk : ts[k]? = some x) : Sep S w (W.setCell ⟨g, k * 7 + j, none⟩ (.int .i64 u)) (rs.set i (rT n (some ⟨g, 0, none⟩) c (ts.set k (x.put j u)))) := by
 have h2 := h.setR i hi (k * 7 + j) (.int .i64 u)
 rw [tcells_setput ts k j hj x u hk] at h2
 exact h2
theorem Sep.putT2 {S : List Nat} {w W : World} {rs : List Res} (h : Sep S w W rs) (i : Nat) {g n c : Nat} {ts : List T7} (hi : rs[i]? = some (rT n (some ⟨g, 0, none⟩) c ts)) (k j1 j2 : Nat) (h1 : j1 < 7) (h2 : j2 < 7) (x : T7) (u1 u2 : Int) (hk : ts[k]? = some x) : Sep S w ((W.setCell ⟨g, k * 7 + j1, none⟩ (.int .i64 u1)).setCell ⟨g, k * 7 + j2, none⟩ (.int .i64 u2)) (rs.set i (rT n (some ⟨g, 0, none⟩) c (ts.set k ((x.put j1 u1).put j2 u2)))) := by
 have hl : i < rs.length := by
  rcases Nat.lt_or_ge i rs.length with h1 | h1
  ·exact h1
  ·rw [List.getElem?_eq_none h1] at hi; cases hi
 have hkl : k < ts.length := by
  rcases Nat.lt_or_ge k ts.length with h1 | h1
  ·exact h1
  ·rw [List.getElem?_eq_none h1] at hk; cases hk
 have h3 := (h.putT i hi k j1 h1 x u1 hk).putT i (List.getElem?_set_self hl) k j2 h2 (x.put j1 u1) u2 (List.getElem?_set_self hkl)
 rw [List.set_set, List.set_set] at h3
 exact h3
theorem Sep.putT3 {S : List Nat} {w W : World} {rs : List Res} (h : Sep S w W rs) (i : Nat) {g n c : Nat} {ts : List T7} (hi : rs[i]? = some (rT n (some ⟨g, 0, none⟩) c ts)) (k j1 j2 j3 : Nat) (h1 : j1 < 7) (h2 : j2 < 7) (h3 : j3 < 7) (x : T7) (u1 u2 u3 : Int) (hk : ts[k]? = some x) : Sep S w (((W.setCell ⟨g, k * 7 + j1, none⟩ (.int .i64 u1)).setCell ⟨g, k * 7 + j2, none⟩ (.int .i64 u2)).setCell ⟨g, k * 7 + j3, none⟩ (.int .i64 u3)) (rs.set i (rT n (some ⟨g, 0, none⟩) c (ts.set k (((x.put j1 u1).put j2 u2).put j3 u3)))) := by
 have hl : i < rs.length := by
  rcases Nat.lt_or_ge i rs.length with h1 | h1
  ·exact h1
  ·rw [List.getElem?_eq_none h1] at hi; cases hi
 have hkl : k < ts.length := by
  rcases Nat.lt_or_ge k ts.length with h1 | h1
  ·exact h1
  ·rw [List.getElem?_eq_none h1] at hk; cases hk
 have h4 := (h.putT2 i hi k j1 j2 h1 h2 x u1 u2 hk).putT i (List.getElem?_set_self hl) k j3 h3 ((x.put j1 u1).put j2 u2) u3 (List.getElem?_set_self hkl)
 rw [List.set_set, List.set_set] at h4
 exact h4
theorem rT_form {W : World} {n c : Nat} {A : Option Addr} {ts : List T7} (h : (rT n A c ts).here W) (hn : 0 < n) : ∃ g, A = some ⟨g, 0, none⟩ ∧ g < W.heap.size ∧ ∀ j, W.frozen? ⟨g, j, none⟩ = false := by
 obtain ⟨g, cap, hv, _, hgl⟩ := World.ownsRow.form h hn
 injection hv with hA _ hc
 subst hA
 exact ⟨g, rfl, hgl, fun j => Own.fz h j⟩
theorem rK_form {W : World} {n c : Nat} {A : Option Addr} {ks : List Int} (h : (rK n A c ks).here W) (hn : 0 < n) : ∃ g, A = some ⟨g, 0, none⟩ ∧ g < W.heap.size ∧ ∀ j, W.frozen? ⟨g, j, none⟩ = false := by
 obtain ⟨g, cap, hv, _, hgl⟩ := World.ownsRow.form h hn
 injection hv with hA _ hc
 subst hA
 exact ⟨g, rfl, hgl, fun j => Own.fz h j⟩
theorem rF_form {W : World} {n c : Nat} {A : Option Addr} {fs : List F2} (h : (rF n A c fs).here W) (hn : 0 < n) : ∃ g, A = some ⟨g, 0, none⟩ ∧ g < W.heap.size ∧ ∀ j, W.frozen? ⟨g, j, none⟩ = false := by
 obtain ⟨g, cap, hv, _, hgl⟩ := World.ownsRow.form h hn
 injection hv with hA _ hc
 subst hA
 exact ⟨g, rfl, hgl, fun j => Own.fz h j⟩
theorem Sep.putK {S : List Nat} {w W : World} {rs : List Res} (h : Sep S w W rs) (i : Nat) {g n c : Nat} {ks : List Int} (hi : rs[i]? = some (rK n (some ⟨g, 0, none⟩) c ks)) (k : Nat) (u : Int) : Sep S w (W.setCell ⟨g, k, none⟩ (.int .i64 u)) (rs.set i (rK n (some ⟨g, 0, none⟩) c (ks.set k u))) := by
 have h2 := h.setR i hi k (.int .i64 u)
 rw [icells_put] at h2
 exact h2
theorem Sep.putF {S : List Nat} {w W : World} {rs : List Res} (h : Sep S w W rs) (i : Nat) {g n c : Nat} {fs : List F2} (hi : rs[i]? = some (rF n (some ⟨g, 0, none⟩) c fs)) (k : Nat) (b : Bool) (u : Int) : Sep S w ((W.setCell ⟨g, k * 2, none⟩ (.bool b)).setCell ⟨g, k * 2 + 1, none⟩ (.int .i64 u)) (rs.set i (rF n (some ⟨g, 0, none⟩) c (fs.set k ⟨b, u⟩))) := by
 have hl : i < rs.length := by
  rcases Nat.lt_or_ge i rs.length with h1 | h1
  ·exact h1
  ·rw [List.getElem?_eq_none h1] at hi; cases hi
 have h2 := (h.setR i hi (k * 2) (.bool b)).setR i (List.getElem?_set_self hl) (k * 2 + 1) (.int .i64 u)
 rw [List.set_set] at h2
 have e := fcells_put fs k ⟨b, u⟩
 simp only at e
 rw [e] at h2
 exact h2
theorem Sep.enter1 {o1 : Array Value} {t1 : TypeId} (w : World) : Sep [] w (w.alloc (.cells o1 t1)) [.blk w.heap.size t1 o1] := (Sep.start w).alloc t1 o1 w.heap.size rfl
set_option maxHeartbeats 2000000
set_option maxRecDepth 100000
def isInB (ts : List T7) (id s : Int) : Bool := btw id 0 ((ts.length : Int) - 1) && ((taskAt ts id).s == s)
def canB (ts : List T7) (id v tn : Int) : Bool := isInB ts id 3 && (btw v 0 9999 && decide (tn < 1000000))
theorem isInB_of {ts : List T7} {k : Nat} {x : T7} (h : ts[k]? = some x) (s : Int) : isInB ts k s = (x.s == s) := by
 have hk : k < ts.length := by
  rcases Nat.lt_or_ge k ts.length with h1 | h1
  ·exact h1
  ·rw [List.getElem?_eq_none h1] at h; cases h
 unfold isInB
 rw [taskAt_of h]
 have : btw (k : Int) 0 ((ts.length : Int) - 1) = true := by simp [btw]; omega
 rw [this, Bool.true_and]
theorem has_any (ts : List T7) (A0 A1 A2 : Option Addr) (c0 n1 c1 n2 c2 : Nat) (tn : Int) (st : Bool) (g : Nat) (id : Int) (w : World) (hlen : ts.length ≤ 1048576) (hg : Blk w g 35 #[.slice A0 ts.length c0, .slice A1 n1 c1, .slice A2 n2 c2, .int .i64 tn, .bool st]) :
 Calls Tryz.prog 128 #[.pointer (some ⟨g, 0, none⟩), .int .i64 id] w fun r w' => r = .returned (.bool (btw id 0 ((ts.length : Int) - 1))) ∧ w = w' := by
 have H := hide hg
 clear hg
 go_enter Tryz.func128, Tryz.ntmps128
 go_wp2_with fail
 go_call (size_any ts _ A1 A2 c0 n1 c1 n2 c2 tn st g _ H.out) as r W1 ⟨rfl, rfl⟩
 go_wp2_with fail
 go_call (between_any _ _ _ _) as r W2 ⟨rfl, rfl⟩
 go_wp2_with fail
 go_ret
 exact ⟨rfl, rfl⟩
theorem isIn_any (ts : List T7) (A0 A1 A2 : Option Addr) (c0 n1 c1 n2 c2 : Nat) (tn : Int) (st : Bool) (g : Nat) (id s : Int) (w : World) (hlen : ts.length ≤ 1048576) (hg : Blk w g 35 #[.slice A0 ts.length c0, .slice A1 n1 c1, .slice A2 n2 c2, .int .i64 tn, .bool st]) (h : Row w A0 (tcells ts)) :
 Calls Tryz.prog 129 #[.pointer (some ⟨g, 0, none⟩), .int .i64 id, .int .i64 s] w fun r w' => r = .returned (.bool (isInB ts id s)) ∧ Below w.heap.size w w' := by
 have H := hide (⟨h, hg⟩ : _ ∧ _)
 have q0 : w.cell? ⟨g, 0, none⟩ = some (.slice A0 ts.length c0) := hg.cell 0
 by_cases hb : btw id 0 ((ts.length : Int) - 1) = true
 ·obtain ⟨k, rfl⟩ : ∃ k : Nat, id = k := ⟨id.toNat, by simp [btw] at hb; omega⟩
  have hk : k < ts.length := by simp [btw] at hb; omega
  obtain ⟨b, off, s', l, o, wt, on, v, t, rfl, _, he, hbl, y0, y1, y2, y3, y4, y5, y6⟩ := h.ts_at hk
  rw [isInB_of he]
  have hk1 : (k : Int) < (ts.length : Int) := by omega
  have hk0 : (0 : Int) ≤ (k : Int) := by omega
  clear he h hg
  go_enter Tryz.func129, Tryz.ntmps129
  go_wp2_with fail
  go_call (has_any ts _ A1 A2 c0 n1 c1 n2 c2 tn st g _ _ hlen H.out.2) as r W1 ⟨rfl, rfl⟩
  rw [hb]
  go_wp2_with fail
  go_ret
  exact ⟨rfl, Below.refl _ _⟩
 ·have hb' : btw id 0 ((ts.length : Int) - 1) = false := by simpa using hb
  have e : isInB ts id s = false := by unfold isInB; rw [hb']; rfl
  rw [e]
  clear h hg hb
  go_enter Tryz.func129, Tryz.ntmps129
  go_wp2_with fail
  go_call (has_any ts _ A1 A2 c0 n1 c1 n2 c2 tn st g _ _ hlen H.out.2) as r W1 ⟨rfl, rfl⟩
  rw [hb']
  go_wp2_with fail
  go_ret
  exact ⟨rfl, Below.refl _ _⟩
theorem canWake_any (ts : List T7) (A0 A1 A2 : Option Addr) (c0 n1 c1 n2 c2 : Nat) (tn : Int) (st : Bool) (g : Nat) (id v : Int) (w : World) (hlen : ts.length ≤ 1048576) (hg : Blk w g 35 #[.slice A0 ts.length c0, .slice A1 n1 c1, .slice A2 n2 c2, .int .i64 tn, .bool st]) (h : Row w A0 (tcells ts)) :
 Calls Tryz.prog 183 #[.pointer (some ⟨g, 0, none⟩), .int .i64 id, .int .i64 v] w fun r w' => r = .returned (.bool (canB ts id v tn)) ∧ Below w.heap.size w w' := by
 have H := hide (⟨h, hg⟩ : _ ∧ _)
 clear h hg
 unfold canB
 have hI := hide (isIn_any ts A0 A1 A2 c0 n1 c1 n2 c2 tn st g id 3 w hlen H.out.2 H.out.1)
 generalize isInB ts id 3 = b1 at *
 cases b1
 ·rw [Bool.false_and]
  go_enter Tryz.func183, Tryz.ntmps183
  go_wp2_with fail
  apply Calls.mono
  focus with_reducible exact hI.out
  rintro r W1 ⟨rfl, g1⟩
  go_wp2_with fail
  go_ret
  exact ⟨rfl, g1⟩
 ·rw [Bool.true_and]
  have hB := hide (between_any v 0 9999)
  generalize btw v 0 9999 = b2 at *
  cases b2
  ·rw [Bool.false_and]
   go_enter Tryz.func183, Tryz.ntmps183
   go_wp2_with fail
   apply Calls.mono
   focus with_reducible exact hI.out
   rintro r W1 ⟨rfl, g1⟩
   go_wp2_with fail
   apply Calls.mono
   focus with_reducible exact hB.out _
   rintro r W2 ⟨rfl, rfl⟩
   go_wp2_with fail
   go_ret
   exact ⟨rfl, g1⟩
  ·rw [Bool.true_and]
   go_enter Tryz.func183, Tryz.ntmps183
   go_wp2_with fail
   apply Calls.mono
   focus with_reducible exact hI.out
   rintro r W1 ⟨rfl, g1⟩
   have q3 : W1.cell? ⟨g, 3, none⟩ = some (.int .i64 tn) := (H.out.2.below g1 H.out.2.lt).cell 3
   go_wp2_with fail
   apply Calls.mono
   focus with_reducible exact hB.out _
   rintro r W2 ⟨rfl, rfl⟩
   go_wp2_with fail
   go_ret
   exact ⟨rfl, g1⟩
theorem takeTurn_any (ts : List T7) (A0 A1 A2 : Option Addr) (c0 n1 c1 n2 c2 : Nat) (tn : Int) (st : Bool) (g : Nat) (w : World) (t0 : -1000000000 ≤ tn) (t1 : tn ≤ 1000000000) (hg : Blk w g 35 #[.slice A0 ts.length c0, .slice A1 n1 c1, .slice A2 n2 c2, .int .i64 tn, .bool st]) :
 Calls Tryz.prog 182 #[.pointer (some ⟨g, 0, none⟩)] w fun r w' => r = .returned (.int .i64 tn) ∧ w' = w.setCell ⟨g, 3, none⟩ (.int .i64 (tn + 1)) := by
 have q3 : w.cell? ⟨g, 3, none⟩ = some (.int .i64 tn) := hg.cell 3
 have f3 : w.frozen? ⟨g, 3, none⟩ = false := hg.frozen 3
 clear hg
 go_enter Tryz.func182, Tryz.ntmps182
 go_wp2_with fail
 go_ret
 exact ⟨rfl, rfl⟩
theorem wake_no (ts : List T7) (A0 A1 A2 : Option Addr) (c0 n1 c1 n2 c2 : Nat) (tn : Int) (st : Bool) (g : Nat) (id v : Int) (w : World) (hlen : ts.length ≤ 1048576) (hg : Blk w g 35 #[.slice A0 ts.length c0, .slice A1 n1 c1, .slice A2 n2 c2, .int .i64 tn, .bool st]) (h : Row w A0 (tcells ts)) (hc : canB ts id v tn = false) :
 Calls Tryz.prog 151 #[.pointer (some ⟨g, 0, none⟩), .int .i64 id, .int .i64 v] w fun r w' => r = .returned (.bool false) ∧ Below w.heap.size w w' := by
 have hC := hide (canWake_any ts A0 A1 A2 c0 n1 c1 n2 c2 tn st g id v w hlen hg h)
 rw [hc] at hC
 clear h hg hc
 go_enter Tryz.func151, Tryz.ntmps151
 go_wp2_with fail
 apply Calls.mono
 focus with_reducible exact hC.out
 rintro r W1 ⟨rfl, g1⟩
 go_wp2_with fail
 go_ret
 exact ⟨rfl, g1⟩
theorem wake_yes (ts : List T7) (A0 A1 A2 : Option Addr) (c0 n1 c1 n2 c2 : Nat) (tn : Int) (st : Bool) (g k : Nat) (v : Int) (s l o wt on v0 t : Int) (w : World) (hlen : ts.length ≤ 1048576) (t0 : -1000000 ≤ tn) (ht : ts[k]? = some ⟨s, l, o, wt, on, v0, t⟩) (h : Sep (fps [.blk g 35 #[.slice A0 ts.length c0, .slice A1 n1 c1, .slice A2 n2 c2, .int .i64 tn, .bool st], rT ts.length A0 c0 ts]) w w [.blk g 35 #[.slice A0 ts.length c0, .slice A1 n1 c1, .slice A2 n2 c2, .int .i64 tn, .bool st], rT ts.length A0 c0 ts]) (hc : canB ts k v tn = true) :
 Calls Tryz.prog 151 #[.pointer (some ⟨g, 0, none⟩), .int .i64 k, .int .i64 v] w fun r w' => r = .returned (.bool true) ∧ Sep (fps [.blk g 35 #[.slice A0 ts.length c0, .slice A1 n1 c1, .slice A2 n2 c2, .int .i64 tn, .bool st], rT ts.length A0 c0 ts]) w w' [.blk g 35 #[.slice A0 ts.length c0, .slice A1 n1 c1, .slice A2 n2 c2, .int .i64 (tn + 1), .bool st], rT ts.length A0 c0 (ts.set k (wakeT ⟨s, l, o, wt, on, v0, t⟩ tn v))] := by
 have hC := hide (canWake_any ts A0 A1 A2 c0 n1 c1 n2 c2 tn st g k v w hlen (h.blk 0 rfl) (h.rowS 1 rfl))
 rw [hc] at hC
 have t1 : tn ≤ 1000000 := by simp [canB] at hc; omega
 clear hc
 have hkl : k < ts.length := by
  rcases Nat.lt_or_ge k ts.length with h1 | h1
  ·exact h1
  ·rw [List.getElem?_eq_none h1] at ht; cases ht
 have hki : (k : Int) < (ts.length : Int) := by omega
 have hk0 : (0 : Int) ≤ (k : Int) := by omega
 have hr : (rT ts.length A0 c0 ts).here w := h.rowAt 1 rfl
 obtain ⟨gr, rfl, hgl, hfz⟩ := rT_form hr (show 0 < ts.length by omega)
 clear hr
 have HT := hide ht
 clear ht
 have H := hide h
 clear h
 go_enter Tryz.func151, Tryz.ntmps151
 go_wp2_with fail
 apply Calls.mono
 focus with_reducible exact hC.out
 rintro r W1 ⟨rfl, g1⟩
 have M := Sep.call H.out g1
 have q0 : W1.cell? ⟨g, 0, none⟩ = some (.slice (some ⟨gr, 0, none⟩) ts.length c0) := M.cell 0 0 rfl
 have hfz1 : ∀ j, W1.frozen? ⟨gr, j, none⟩ = false := fun j => Own.fz (M.rowAt 1 rfl) j
 have fz0 : W1.frozen? ⟨gr, k * 7, none⟩ = false := hfz1 _
 have fz3 : W1.frozen? ⟨gr, k * 7 + 3, none⟩ = false := hfz1 _
 have fz4 : W1.frozen? ⟨gr, k * 7 + 4, none⟩ = false := hfz1 _
 have fz5 : W1.frozen? ⟨gr, k * 7 + 5, none⟩ = false := hfz1 _
 obtain ⟨s', l', o', wt', on', v', t', ht', y0, y1, y2, y3, y4, y5, y6⟩ := Own.t7 (M.rowAt 1 rfl) hkl
 clear hfz hfz1 ht' y1 y2 y6
 go_wp2_with fail
 have M2 := (M.putT2 1 rfl k 0 3 (by omega) (by omega) ⟨s, l, o, wt, on, v0, t⟩ 1 0 HT.out).putT2 1 rfl k 4 5 (by omega) (by omega) ⟨1, l, o, 0, on, v0, t⟩ 0 v (List.getElem?_set_self hkl)
 simp only [List.set_set] at M2
 replace M2 : Sep (fps [.blk g 35 #[.slice (some ⟨gr, 0, none⟩) ts.length c0, .slice A1 n1 c1, .slice A2 n2 c2, .int .i64 tn, .bool st], rT ts.length (some ⟨gr, 0, none⟩) c0 ts]) w ((((W1.setCell ⟨gr, k * 7, none⟩ (.int .i64 1)).setCell ⟨gr, k * 7 + 3, none⟩ (.int .i64 0)).setCell ⟨gr, k * 7 + 4, none⟩ (.int .i64 0)).setCell ⟨gr, k * 7 + 5, none⟩ (.int .i64 v)) [.blk g 35 #[.slice (some ⟨gr, 0, none⟩) ts.length c0, .slice A1 n1 c1, .slice A2 n2 c2, .int .i64 tn, .bool st], rT ts.length (some ⟨gr, 0, none⟩) c0 (ts.set k ⟨1, l, o, 0, 0, v, t⟩)] := M2
 clear M q0 fz0 fz3 fz4 fz5 y0 y3 y4 y5
 generalize (((W1.setCell ⟨gr, k * 7, none⟩ (.int .i64 1)).setCell ⟨gr, k * 7 + 3, none⟩ (.int .i64 0)).setCell ⟨gr, k * 7 + 4, none⟩ (.int .i64 0)).setCell ⟨gr, k * 7 + 5, none⟩ (.int .i64 v) = W2 at M2 ⊢
 go_call (takeTurn_any ts (some ⟨gr, 0, none⟩) A1 A2 c0 n1 c1 n2 c2 tn st g _ (by omega) (by omega) (M2.blk 0 rfl)) as r W3 ⟨rfl, rfl⟩
 replace M2 := M2.set 0 rfl 3 (.int .i64 (tn + 1))
 generalize W2.setCell ⟨g, 3, none⟩ (.int .i64 (tn + 1)) = W3 at M2 ⊢
 have fz6 : W3.frozen? ⟨gr, k * 7 + 6, none⟩ = false := Own.fz (M2.rowAt 1 rfl) _
 obtain ⟨s', l', o', wt', on', v', t', ht', y0, y1, y2, y3, y4, y5, y6⟩ := Own.t7 (M2.rowAt 1 rfl) (show k < (ts.set k ⟨1, l, o, 0, 0, v, t⟩).length by simpa using hkl)
 clear ht' y0 y1 y2 y3 y4 y5
 go_wp2_with fail
 go_ret
 have M3 := M2.putT 1 rfl k 6 (by omega) ⟨1, l, o, 0, 0, v, t⟩ tn (List.getElem?_set_self hkl)
 simp only [List.set_set] at M3
 exact ⟨rfl, M3⟩
theorem park_yes (g k : Nat) (pw po : Int) (s l o wt on v0 t : Int) (w : World) (hlen : ts.length ≤ 1048576) (hk1 : ks.length ≤ 1048576) (hf1 : fs.length ≤ 1048576) (t0 : -1000000 ≤ tn) (t1 : tn ≤ 1000000) (ht : ts[k]? = some ⟨s, l, o, wt, on, v0, t⟩) (h : Sep (fps [.blk g 35 #[.slice A0 ts.length c0, .slice A1 ks.length c1, .slice A2 fs.length c2, .int .i64 tn, .bool st], rT ts.length A0 c0 ts, rK ks.length A1 c1 ks, rF fs.length A2 c2 fs]) w w [.blk g 35 #[.slice A0 ts.length c0, .slice A1 ks.length c1, .slice A2 fs.length c2, .int .i64 tn, .bool st], rT ts.length A0 c0 ts, rK ks.length A1 c1 ks, rF fs.length A2 c2 fs]) (hc : isInB ts k 2 = true) :
 Calls Tryz.prog 169 #[.pointer (some ⟨g, 0, none⟩), .agg #[.int .i64 a, .int .i64 b, .int .i64 c, .int .i64 d, .int .i64 e], .int .i64 k, .int .i64 pw, .int .i64 po] w fun r w' => r = .returned (.bool (poolB a b c d e (ts.set k (parkT ⟨s, l, o, wt, on, v0, t⟩ tn pw po)) ks fs (tn + 1))) ∧ Sep (fps [.blk g 35 #[.slice A0 ts.length c0, .slice A1 ks.length c1, .slice A2 fs.length c2, .int .i64 tn, .bool st], rT ts.length A0 c0 ts, rK ks.length A1 c1 ks, rF fs.length A2 c2 fs]) w w' [.blk g 35 #[.slice A0 ts.length c0, .slice A1 ks.length c1, .slice A2 fs.length c2, .int .i64 (tn + 1), .bool st], rT ts.length A0 c0 (ts.set k (parkT ⟨s, l, o, wt, on, v0, t⟩ tn pw po)), rK ks.length A1 c1 ks, rF fs.length A2 c2 fs] := by
 have hkl : k < ts.length := by
  rcases Nat.lt_or_ge k ts.length with h1 | h1
  ·exact h1
  ·rw [List.getElem?_eq_none h1] at ht; cases ht
 obtain ⟨us, hus⟩ : ∃ us, us = ts.set k (parkT ⟨s, l, o, wt, on, v0, t⟩ tn pw po) := ⟨_, rfl⟩
 obtain ⟨bb, hbb⟩ : ∃ bb, bb = poolB a b c d e us ks fs (tn + 1) := ⟨_, rfl⟩
 rw [← hus, ← hbb]
 have HB := hide (⟨hus, show us.length = ts.length from by rw [hus]; simp, hbb⟩ : _ ∧ _ ∧ _)
 clear hus hbb
 have hki : (k : Int) < (ts.length : Int) := by omega
 have hk0 : (0 : Int) ≤ (k : Int) := by omega
 have hr : (rT ts.length A0 c0 ts).here w := h.rowAt 1 rfl
 obtain ⟨gr, rfl, hgl, hfz⟩ := rT_form hr (show 0 < ts.length by omega)
 clear hr hfz
 have HT := hide ht
 clear ht
 have H := hide h
 clear h
 go_enter Tryz.func169, Tryz.ntmps169
 go_wp2_with fail
 have M := Sep.allocN H.out 28 #[.int .i64 a, .int .i64 b, .int .i64 c, .int .i64 d, .int .i64 e]
 generalize w.alloc (.cells #[.int .i64 a, .int .i64 b, .int .i64 c, .int .i64 d, .int .i64 e] 28) = W0 at M ⊢
 go_call (isIn_any ts (some ⟨gr, 0, none⟩) A1 A2 c0 ks.length c1 fs.length c2 tn st g k 2 _ hlen (M.blk 1 rfl) (M.rowS 2 rfl)) as r W1 ⟨rfl, g1⟩
 rw [hc]
 replace M := M.call g1
 clear g1
 have q0 : W1.cell? ⟨g, 0, none⟩ = some (.slice (some ⟨gr, 0, none⟩) ts.length c0) := M.cell 1 0 rfl
 have hfz1 : ∀ j, W1.frozen? ⟨gr, j, none⟩ = false := fun j => Own.fz (M.rowAt 2 rfl) j
 have fz0 : W1.frozen? ⟨gr, k * 7, none⟩ = false := hfz1 _
 have fz2 : W1.frozen? ⟨gr, k * 7 + 2, none⟩ = false := hfz1 _
 have fz3 : W1.frozen? ⟨gr, k * 7 + 3, none⟩ = false := hfz1 _
 have fz4 : W1.frozen? ⟨gr, k * 7 + 4, none⟩ = false := hfz1 _
 obtain ⟨s', l', o', wt', on', v', t', ht', y0, y1, y2, y3, y4, y5, y6⟩ := Own.t7 (M.rowAt 2 rfl) hkl
 clear hfz1 ht' y1 y5 y6
 go_wp2_with fail
 have M2 := (M.putT2 2 rfl k 0 2 (by omega) (by omega) ⟨s, l, o, wt, on, v0, t⟩ 3 (-1) HT.out).putT2 2 rfl k 3 4 (by omega) (by omega) ⟨3, l, -1, wt, on, v0, t⟩ pw po (List.getElem?_set_self hkl)
 simp only [List.set_set] at M2
 replace M2 : Sep (fps [.blk g 35 #[.slice (some ⟨gr, 0, none⟩) ts.length c0, .slice A1 ks.length c1, .slice A2 fs.length c2, .int .i64 tn, .bool st], rT ts.length (some ⟨gr, 0, none⟩) c0 ts, rK ks.length A1 c1 ks, rF fs.length A2 c2 fs]) w ((((W1.setCell ⟨gr, k * 7, none⟩ (.int .i64 3)).setCell ⟨gr, k * 7 + 2, none⟩ (.int .i64 (-1))).setCell ⟨gr, k * 7 + 3, none⟩ (.int .i64 pw)).setCell ⟨gr, k * 7 + 4, none⟩ (.int .i64 po)) [.blk w.heap.size 28 #[.int .i64 a, .int .i64 b, .int .i64 c, .int .i64 d, .int .i64 e], .blk g 35 #[.slice (some ⟨gr, 0, none⟩) ts.length c0, .slice A1 ks.length c1, .slice A2 fs.length c2, .int .i64 tn, .bool st], rT ts.length (some ⟨gr, 0, none⟩) c0 (ts.set k ⟨3, l, -1, pw, po, v0, t⟩), rK ks.length A1 c1 ks, rF fs.length A2 c2 fs] := M2
 clear M q0 fz0 fz2 fz3 fz4 y0 y2 y3 y4
 generalize (((W1.setCell ⟨gr, k * 7, none⟩ (.int .i64 3)).setCell ⟨gr, k * 7 + 2, none⟩ (.int .i64 (-1))).setCell ⟨gr, k * 7 + 3, none⟩ (.int .i64 pw)).setCell ⟨gr, k * 7 + 4, none⟩ (.int .i64 po) = W2 at M2 ⊢
 go_call (takeTurn_any ts (some ⟨gr, 0, none⟩) A1 A2 c0 ks.length c1 fs.length c2 tn st g _ (by omega) (by omega) (M2.blk 1 rfl)) as r W3 ⟨rfl, rfl⟩
 replace M2 := M2.set 1 rfl 3 (.int .i64 (tn + 1))
 generalize W2.setCell ⟨g, 3, none⟩ (.int .i64 (tn + 1)) = W3 at M2 ⊢
 have fz6 : W3.frozen? ⟨gr, k * 7 + 6, none⟩ = false := Own.fz (M2.rowAt 2 rfl) _
 obtain ⟨s', l', o', wt', on', v', t', ht', y0, y1, y2, y3, y4, y5, y6⟩ := Own.t7 (M2.rowAt 2 rfl) (show k < (ts.set k ⟨3, l, -1, pw, po, v0, t⟩).length by simpa using hkl)
 clear ht' y0 y1 y2 y3 y4 y5
 have M3 := M2.putT 2 rfl k 6 (by omega) ⟨3, l, -1, pw, po, v0, t⟩ tn (List.getElem?_set_self hkl)
 simp only [List.set_set] at M3
 have hP0 : w.heap.size < W3.heap.size := M2.lt 0 rfl
 have hne : ¬ w.heap.size = gr := by omega
 have qP0 : W3.cell? ⟨w.heap.size, 0, none⟩ = some (.int .i64 a) := M2.cell 0 0 rfl
 have qP1 : W3.cell? ⟨w.heap.size, 1, none⟩ = some (.int .i64 b) := M2.cell 0 1 rfl
 have qP2 : W3.cell? ⟨w.heap.size, 2, none⟩ = some (.int .i64 c) := M2.cell 0 2 rfl
 have qP3 : W3.cell? ⟨w.heap.size, 3, none⟩ = some (.int .i64 d) := M2.cell 0 3 rfl
 have qP4 : W3.cell? ⟨w.heap.size, 4, none⟩ = some (.int .i64 e) := M2.cell 0 4 rfl
 go_wp2_with fail
 replace M3 : Sep (fps [.blk g 35 #[.slice (some ⟨gr, 0, none⟩) ts.length c0, .slice A1 ks.length c1, .slice A2 fs.length c2, .int .i64 tn, .bool st], rT ts.length (some ⟨gr, 0, none⟩) c0 ts, rK ks.length A1 c1 ks, rF fs.length A2 c2 fs]) w (W3.setCell ⟨gr, k * 7 + 6, none⟩ (.int .i64 tn)) [.blk w.heap.size 28 #[.int .i64 a, .int .i64 b, .int .i64 c, .int .i64 d, .int .i64 e], .blk g 35 #[.slice (some ⟨gr, 0, none⟩) ts.length c0, .slice A1 ks.length c1, .slice A2 fs.length c2, .int .i64 (tn + 1), .bool st], rT ts.length (some ⟨gr, 0, none⟩) c0 (ts.set k (parkT ⟨s, l, o, wt, on, v0, t⟩ tn pw po)), rK ks.length A1 c1 ks, rF fs.length A2 c2 fs] := M3
 generalize W3.setCell ⟨gr, k * 7 + 6, none⟩ (.int .i64 tn) = W4 at M3 ⊢
 rw [← HB.out.1, ← HB.out.2.1] at M3
 have hR := pright_any a b c d e us ks fs (some ⟨gr, 0, none⟩) A1 A2 c0 c1 c2 (tn + 1) st g W4 hk1 hf1 (M3.blk 1 rfl) ⟨M3.rowS 2 rfl, M3.rowS 3 rfl, M3.rowS 4 rfl⟩
 rw [← HB.out.2.2] at hR
 clear HT M2 fz6 y6
 apply Calls.mono
 focus with_reducible exact hR
 clear hR
 rintro r W5 ⟨rfl, g5⟩
 replace M3 := M3.call g5
 rw [HB.out.2.1] at M3
 clear g5
 go_wp2_with fail
 go_ret
 exact ⟨rfl, M3.tail⟩
theorem l6May_v (wk : Int) (z : Bool) (hz : mayB a b c d e ts ks fs tn wk = z) (w : World) (ht : ts.length ≤ 1048576) (hk : ks.length ≤ 1048576) (hf : fs.length ≤ 1048576) (h : InPool w ts ks fs A0 A1 A2) :
 Calls Tryz.prog 51 #[.agg #[.int .i64 a, .int .i64 b, .int .i64 c, .int .i64 d, .int .i64 e], .agg #[.slice A0 ts.length c0, .slice A1 ks.length c1, .slice A2 fs.length c2, .int .i64 tn, .bool st], .int .i64 wk] w fun r w' => r = .returned (.bool z) ∧ Below w.heap.size w w' := hz ▸ l6May_any a b c d e ts ks fs A0 A1 A2 c0 c1 c2 tn st wk w ht hk hf h
theorem l5Has_v (ts : List T7) (A0 A1 A2 : Option Addr) (c0 n1 c1 n2 c2 : Nat) (tn : Int) (st : Bool) (id : Int) (z : Bool) (hz : btw id 0 (ts.length - 1) = z) (w : World) (hlen : ts.length ≤ 1048576) :
 Calls Tryz.prog 71 #[.agg #[.slice A0 ts.length c0, .slice A1 n1 c1, .slice A2 n2 c2, .int .i64 tn, .bool st], .int .i64 id] w fun r w' => r = .returned (.bool z) ∧ Below w.heap.size w w' := hz ▸ l5Has_any ts A0 A1 A2 c0 n1 c1 n2 c2 tn st id w hlen
theorem sLevelIn_v (a b c d e n : Int) (z : Bool) (hz : levelB a b c d e n = z) (w : World) : Calls Tryz.prog 52 #[.agg #[.int .i64 a, .int .i64 b, .int .i64 c, .int .i64 d, .int .i64 e], .int .i64 n] w fun r w' => r = .returned (.bool z) ∧ Below w.heap.size w w' := hz ▸ sLevelIn_any a b c d e n w
theorem sRunBy_v (ts : List T7) (A0 A1 A2 : Option Addr) (c0 n1 c1 n2 c2 : Nat) (tn : Int) (st : Bool) (wk z : Int) (hz : runM ts wk 0 = z) (w : World) (hlen : ts.length ≤ 1048576) (h0 : Row w A0 (tcells ts)) :
 Calls Tryz.prog 18 #[.agg #[.slice A0 ts.length c0, .slice A1 n1 c1, .slice A2 n2 c2, .int .i64 tn, .bool st], .int .i64 wk] w fun r w' => r = .returned (.int .i64 z) ∧ Below w.heap.size w w' := hz ▸ sRunBy_any ts A0 A1 A2 c0 n1 c1 n2 c2 tn st wk w hlen h0
theorem firstReady_v (ts : List T7) (A0 A1 A2 : Option Addr) (c0 n1 c1 n2 c2 : Nat) (tn : Int) (st : Bool) (z : Int) (hz : firstM ts = z) (w : World) (hlen : ts.length ≤ 1048576) (h : Row w A0 (tcells ts)) :
 Calls Tryz.prog 57 #[.agg #[.slice A0 ts.length c0, .slice A1 n1 c1, .slice A2 n2 c2, .int .i64 tn, .bool st]] w fun r w' => r = .returned (.int .i64 z) ∧ Below w.heap.size w w' := hz ▸ firstReady_any ts A0 A1 A2 c0 n1 c1 n2 c2 tn st w hlen h
end Go.Proofs.YtfkdfkoigojciaaGreatDoor
