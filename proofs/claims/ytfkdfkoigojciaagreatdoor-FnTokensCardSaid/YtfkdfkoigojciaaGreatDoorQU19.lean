import Derived.Test.YtfkdfkoigojciaaGreatDoorQU18
import Derived.Test.YtfkdfkoigojciaaGreatDoorQU13
import Derived.Test.YtfkdfkoigojciaaGreatDoorQU04
import Derived.Test.YtfkdfkoigojciaaGreatDoorQU03
import Derived.ArgAppend

namespace Go.Proofs.YtfkdfkoigojciaaGreatDoor
open Go.RowKit
set_option linter.unusedVariables false
set_option maxHeartbeats 4000000
set_option maxRecDepth 100000
def rP (n : Nat) (A : Option Addr) (c : Nat) (ps : List P3) : Res := .row 152 3 (.slice A n c) n (pcells ps)
theorem rP_form {W : World} {n c : Nat} {A : Option Addr} {ps : List P3} (h : (rP n A c ps).here W) (hn : 0 < n) : ∃ g, A = some ⟨g, 0, none⟩ ∧ g < W.heap.size ∧ ∀ j, W.frozen? ⟨g, j, none⟩ = false := by
 obtain ⟨g, cap, hv, _, hgl⟩ := World.ownsRow.form h hn
 injection hv with hA _ hc
 subst hA
 exact ⟨g, rfl, hgl, fun j => Own.fz h j⟩
theorem Own.put3 {w : World} {base : Nat} {e : TypeId} {g n c : Nat} {ps : List P3} (h : w.ownsRow base e 3 (.slice (some ⟨g, 0, none⟩) n c) n (pcells ps)) (k : Nat) (l t i : Int) :
 (((w.setCell ⟨g, k * 3, none⟩ (.int .i64 l)).setCell ⟨g, k * 3 + 1, none⟩ (.int .i64 t)).setCell ⟨g, k * 3 + 2, none⟩ (.int .i64 i)).ownsRow base e 3 (.slice (some ⟨g, 0, none⟩) n c) n (pcells (ps.set k ⟨l, t, i⟩)) := by
 rw [← pcells_put]
 exact (((h.stored (k * 3) _).1.stored (k * 3 + 1) _).1.stored (k * 3 + 2) _).1
theorem put33 {w : World} {g n c : Nat} {ps : List P3} (h : (rP n (some ⟨g, 0, none⟩) c ps).here w) (i j : Nat) (a1 a2 a3 b1 b2 b3 : Int) :
 Sep (fps [rP n (some ⟨g, 0, none⟩) c ps]) w ((((((w.setCell ⟨g, i * 3, none⟩ (.int .i64 a1)).setCell ⟨g, i * 3 + 1, none⟩ (.int .i64 a2)).setCell ⟨g, i * 3 + 2, none⟩ (.int .i64 a3)).setCell ⟨g, j * 3, none⟩ (.int .i64 b1)).setCell ⟨g, j * 3 + 1, none⟩ (.int .i64 b2)).setCell ⟨g, j * 3 + 2, none⟩ (.int .i64 b3)) [rP n (some ⟨g, 0, none⟩) c ((ps.set i ⟨a1, a2, a3⟩).set j ⟨b1, b2, b3⟩)] := by
 have h1 : w.ownsRow 0 152 3 (.slice (some ⟨g, 0, none⟩) n c) n (pcells ps) := h
 have h2 := Own.put3 (Own.put3 h1 i a1 a2 a3) j b1 b2 b3
 refine sepOne (fun _ h => .inl h) ?_ h2
 refine only_setCell ?_ (.inl rfl) _
 refine only_setCell ?_ (.inl rfl) _
 refine only_setCell ?_ (.inl rfl) _
 refine only_setCell ?_ (.inl rfl) _
 refine only_setCell ?_ (.inl rfl) _
 refine only_setCell ?_ (.inl rfl) _
 exact World.grownBy.refl _ _
theorem swap_ne (ps : List P3) (A : Option Addr) (c i j : Nat) (hi : i < ps.length) (hj : j < ps.length) (hij : i ≠ j) (hl : ps.length ≤ 1048576) (w : World) (h : (rP ps.length A c ps).here w) :
 Calls Tryz.prog 225 #[.slice A ps.length c, .int .i64 i, .int .i64 j] w fun r w' => (∃ v, r = .returned v) ∧ Sep (fps [rP ps.length A c ps]) w w' [rP ps.length A c (swapL ps i j)] := by
 obtain ⟨g, rfl, hgl, hfz⟩ := rP_form h (by omega)
 obtain ⟨b, off, e, hb, z0, z1, z2⟩ := (Row.of_own h).ps_at hi
 injection e with e
 injection e with e1 e2
 subst e1 e2
 obtain ⟨b', off', e, hb', y0, y1, y2⟩ := (Row.of_own h).ps_at hj
 injection e with e
 injection e with e1 e2
 subst e1 e2
 simp only [Nat.zero_add] at z0 z1 z2 y0 y1 y2
 have hs : swapL ps i j = (ps.set i ⟨ps[j].l, ps[j].t, ps[j].i⟩).set j ⟨ps[i].l, ps[i].t, ps[i].i⟩ := by rw [swapL, getD3 hi, getD3 hj]
 have H := hide (⟨h, hs⟩ : _ ∧ _)
 clear h hs hb hb'
 have hi1 : (i : Int) < (ps.length : Int) := by omega
 have hj1 : (j : Int) < (ps.length : Int) := by omega
 have hi0 : (0 : Int) ≤ (i : Int) := by omega
 have hj0 : (0 : Int) ≤ (j : Int) := by omega
 have f0 : w.frozen? ⟨g, i * 3, none⟩ = false := hfz _
 have f1 : w.frozen? ⟨g, i * 3 + 1, none⟩ = false := hfz _
 have f2 : w.frozen? ⟨g, i * 3 + 2, none⟩ = false := hfz _
 have f3 : w.frozen? ⟨g, j * 3, none⟩ = false := hfz _
 have f4 : w.frozen? ⟨g, j * 3 + 1, none⟩ = false := hfz _
 have f5 : w.frozen? ⟨g, j * 3 + 2, none⟩ = false := hfz _
 have n0 : ¬ i * 3 = j * 3 := by omega
 have n1 : ¬ i * 3 + 1 = j * 3 := by omega
 have n2 : ¬ i * 3 + 2 = j * 3 := by omega
 have n3 : ¬ i * 3 = j * 3 + 1 := by omega
 have n4 : ¬ i * 3 + 1 = j * 3 + 1 := by omega
 have n5 : ¬ i * 3 + 2 = j * 3 + 1 := by omega
 have n6 : ¬ i * 3 = j * 3 + 2 := by omega
 have n7 : ¬ i * 3 + 1 = j * 3 + 2 := by omega
 have n8 : ¬ i * 3 + 2 = j * 3 + 2 := by omega
 have m0 : ¬ j * 3 = i * 3 := by omega
 have m1 : ¬ j * 3 + 1 = i * 3 := by omega
 have m2 : ¬ j * 3 + 2 = i * 3 := by omega
 have m3 : ¬ j * 3 = i * 3 + 1 := by omega
 have m4 : ¬ j * 3 + 1 = i * 3 + 1 := by omega
 have m5 : ¬ j * 3 + 2 = i * 3 + 1 := by omega
 have m6 : ¬ j * 3 = i * 3 + 2 := by omega
 have m7 : ¬ j * 3 + 1 = i * 3 + 2 := by omega
 have m8 : ¬ j * 3 + 2 = i * 3 + 2 := by omega
 clear hfz
 generalize ps[i].l = l1 at *
 generalize ps[i].t = t1 at *
 generalize ps[i].i = i1 at *
 generalize ps[j].l = l2 at *
 generalize ps[j].t = t2 at *
 generalize ps[j].i = i2 at *
 go_enter Tryz.func225, Tryz.ntmps225
 go_wp2_with fail
 refine wp_region_T (S := (fun w' => w'.cell? ⟨g, i * 3, none⟩ = some (.int .i64 l1) ∧ w'.cell? ⟨g, i * 3 + 1, none⟩ = some (.int .i64 t1) ∧ w'.cell? ⟨g, i * 3 + 2, none⟩ = some (.int .i64 i1) ∧ w'.cell? ⟨g, j * 3, none⟩ = some (.int .i64 l2) ∧ w'.cell? ⟨g, j * 3 + 1, none⟩ = some (.int .i64 t2) ∧ w'.cell? ⟨g, j * 3 + 2, none⟩ = some (.int .i64 i2))) (ks := [13, 15]) (by kernel_rfl) ⟨z0, z1, z2, y0, y1, y2⟩ (fun hHeld => ?_)
 refine tkYa 0 _ rfl (fun _ => hHeld) ?_
 try simp only [Act.put, zI, zZ, zS]
 refine tkYa 1 _ rfl (fun _ => hHeld) ?_
 try simp only [Act.put, zI, zZ, zS]
 refine tkYa 2 _ rfl (fun _ => hHeld) ?_
 try simp only [Act.put, zI, zZ, zS]
 refine tkYa 3 _ rfl (fun _ => hHeld) ?_
 try simp only [Act.put, zI, zZ, zS]
 refine tkYa 4 _ rfl (fun _ => hHeld) ?_
 try simp only [Act.put, zI, zZ, zS]
 refine tkYa 5 _ rfl (fun _ => hHeld) ?_
 try simp only [Act.put, zI, zZ, zS]
 refine tkYa 6 _ rfl (fun _ => hHeld) ?_
 try simp only [Act.put, zI, zZ, zS]
 refine tkLa 7 _ rfl hHeld ?_
 try simp only [Act.put, zI, zZ, zS]
 refine tkYa 8 _ rfl (fun _ => hHeld) ?_
 try simp only [Act.put, zI, zZ, zS]
 refine tkYa 9 _ rfl (fun _ => hHeld) ?_
 try simp only [Act.put, zI, zZ, zS]
 refine tkYa 10 _ rfl (fun _ => hHeld) ?_
 try simp only [Act.put, zI, zZ, zS]
 refine tkLa 11 _ rfl hHeld ?_
 try simp only [Act.put, zI, zZ, zS]
 refine tkYa 12 _ rfl (fun _ => hHeld) ?_
 try simp only [Act.put, zI, zZ, zS]
 refine wpAnyT_oneL (i := 13) rfl (by kernel_rfl) (by kernel_rfl) (fun K hK => ?_)
 go_simp
 refine hK.out _ _ ?_
 clear hK K
 try simp only [Act.put, zI, zZ, zS]
 refine tkZ 14 ?v14 rfl ?hy14 ?_
 case hy14 => (intro w; go_simp; all_goals with_reducible rfl)
 try simp only [Act.put, zI, zZ, zS]
 refine wpAnyT_oneL (i := 15) rfl (by kernel_rfl) (by kernel_rfl) (fun K hK => ?_)
 go_simp
 refine hK.out _ _ ?_
 clear hK K
 try simp only [Act.put, zI, zZ, zS]
 refine wpAnyT_done (by kernel_rfl) ?_ _
 go_end0
 refine ⟨⟨_, rfl⟩, ?_⟩
 rw [H.out.2]
 refine Sep.drew ?_
 exact put33 H.out.1 i j _ _ _ _ _ _
theorem swap_eq (ps : List P3) (A : Option Addr) (c i : Nat) (hi : i < ps.length) (hl : ps.length ≤ 1048576) (w : World) (h : (rP ps.length A c ps).here w) :
 Calls Tryz.prog 225 #[.slice A ps.length c, .int .i64 i, .int .i64 i] w fun r w' => (∃ v, r = .returned v) ∧ Sep (fps [rP ps.length A c ps]) w w' [rP ps.length A c (swapL ps i i)] := by
 obtain ⟨g, rfl, hgl, hfz⟩ := rP_form h (by omega)
 obtain ⟨b, off, e, hb, z0, z1, z2⟩ := (Row.of_own h).ps_at hi
 injection e with e
 injection e with e1 e2
 subst e1 e2
 simp only [Nat.zero_add] at z0 z1 z2
 have hs : swapL ps i i = (ps.set i ⟨ps[i].l, ps[i].t, ps[i].i⟩).set i ⟨ps[i].l, ps[i].t, ps[i].i⟩ := by rw [swapL, getD3 hi]
 have H := hide (⟨h, hs⟩ : _ ∧ _)
 clear h hs hb
 have hi1 : (i : Int) < (ps.length : Int) := by omega
 have hi0 : (0 : Int) ≤ (i : Int) := by omega
 have f0 : w.frozen? ⟨g, i * 3, none⟩ = false := hfz _
 have f1 : w.frozen? ⟨g, i * 3 + 1, none⟩ = false := hfz _
 have f2 : w.frozen? ⟨g, i * 3 + 2, none⟩ = false := hfz _
 clear hfz
 generalize ps[i].l = l1 at *
 generalize ps[i].t = t1 at *
 generalize ps[i].i = i1 at *
 go_enter Tryz.func225, Tryz.ntmps225
 go_wp2_with fail
 refine wp_region_T (S := (fun w' => w'.cell? ⟨g, i * 3, none⟩ = some (.int .i64 l1) ∧ w'.cell? ⟨g, i * 3 + 1, none⟩ = some (.int .i64 t1) ∧ w'.cell? ⟨g, i * 3 + 2, none⟩ = some (.int .i64 i1))) (ks := [13, 15]) (by kernel_rfl) ⟨z0, z1, z2⟩ (fun hHeld => ?_)
 refine tkYa 0 _ rfl (fun _ => hHeld) ?_
 try simp only [Act.put, zI, zZ, zS]
 refine tkYa 1 _ rfl (fun _ => hHeld) ?_
 try simp only [Act.put, zI, zZ, zS]
 refine tkYa 2 _ rfl (fun _ => hHeld) ?_
 try simp only [Act.put, zI, zZ, zS]
 refine tkYa 3 _ rfl (fun _ => hHeld) ?_
 try simp only [Act.put, zI, zZ, zS]
 refine tkYa 4 _ rfl (fun _ => hHeld) ?_
 try simp only [Act.put, zI, zZ, zS]
 refine tkYa 5 _ rfl (fun _ => hHeld) ?_
 try simp only [Act.put, zI, zZ, zS]
 refine tkYa 6 _ rfl (fun _ => hHeld) ?_
 try simp only [Act.put, zI, zZ, zS]
 refine tkLa 7 _ rfl hHeld ?_
 try simp only [Act.put, zI, zZ, zS]
 refine tkYa 8 _ rfl (fun _ => hHeld) ?_
 try simp only [Act.put, zI, zZ, zS]
 refine tkYa 9 _ rfl (fun _ => hHeld) ?_
 try simp only [Act.put, zI, zZ, zS]
 refine tkYa 10 _ rfl (fun _ => hHeld) ?_
 try simp only [Act.put, zI, zZ, zS]
 refine tkLa 11 _ rfl hHeld ?_
 try simp only [Act.put, zI, zZ, zS]
 refine tkYa 12 _ rfl (fun _ => hHeld) ?_
 try simp only [Act.put, zI, zZ, zS]
 refine wpAnyT_oneL (i := 13) rfl (by kernel_rfl) (by kernel_rfl) (fun K hK => ?_)
 go_simp
 refine hK.out _ _ ?_
 clear hK K
 try simp only [Act.put, zI, zZ, zS]
 refine tkZ 14 ?v14 rfl ?hy14 ?_
 case hy14 => (intro w; go_simp; all_goals with_reducible rfl)
 try simp only [Act.put, zI, zZ, zS]
 refine wpAnyT_oneL (i := 15) rfl (by kernel_rfl) (by kernel_rfl) (fun K hK => ?_)
 go_simp
 refine hK.out _ _ ?_
 clear hK K
 try simp only [Act.put, zI, zZ, zS]
 refine wpAnyT_done (by kernel_rfl) ?_ _
 go_end0
 refine ⟨⟨_, rfl⟩, ?_⟩
 rw [H.out.2]
 refine Sep.drew ?_
 exact put33 H.out.1 i i _ _ _ _ _ _
theorem swap_any (ps : List P3) (A : Option Addr) (c i j : Nat) (hi : i < ps.length) (hj : j < ps.length) (hl : ps.length ≤ 1048576) (w : World) (h : (rP ps.length A c ps).here w) :
 Calls Tryz.prog 225 #[.slice A ps.length c, .int .i64 i, .int .i64 j] w fun r w' => (∃ v, r = .returned v) ∧ Sep (fps [rP ps.length A c ps]) w w' [rP ps.length A c (swapL ps i j)] := by
 by_cases e : i = j
 ·subst e; exact swap_eq ps A c i hi hl w h
 ·exact swap_ne ps A c i j hi hj e hl w h
theorem run_typeInfo' {P : Program} {w : World} {t : TypeId} {i : TypeInfo} (h : P.info? t = some i) : (typeInfo t).run P w = .ok i w := by
 simp only [typeInfo, Sem.run_bind]
 show Sem.run P (match P.info? t with | some i => pure i | none => stuck "no such type") w = _
 rw [h]; rfl
theorem run_asAddr' {P : Program} (a : Addr) (w : World) : (asAddr (.pointer (some a))).run P w = .ok a w := rfl
theorem run_wrap' {P : Program} (ts : Array TypeId) (t : TypeId) (a : Addr) (s1 s2 : String) (w : World) : (Builtin.ssaWrapNilChk_ ts t #[.pointer (some a), strVal s1, strVal s2]).run P w = .ok (.pointer (some a)) w := rfl
theorem run_method_ptr {P : Program} (fuel : Nat) (T E : TypeId) (name : String) (f : FuncId) (v : Value) (lb : Nat) (w : World)
 (hm : ((P.info? T).bind (fun i => i.methods.find? (·.name == name))).map (fun m => (m.path, m.func)) = some (#[], some (f, false)))
 (hu : P.underlying T = some (.pointer E)) (hE : (loadVar E ⟨lb, 0, none⟩).run P w = .ok v w) :
 Sem.run P (method (fuel + 1) T (.pointer (some ⟨lb, 0, none⟩)) name) w = .ok (f, v) w := by
 cases hi : P.info? T with
 | none => rw [hi] at hm; cases hm
 | some i =>
  rw [hi] at hm
  simp only [Option.bind_some] at hm
  cases hf : i.methods.find? (·.name == name) with
  | none => rw [hf] at hm; cases hm
  | some m =>
   rw [hf] at hm
   simp only [Option.map_some, Option.some.injEq, Prod.mk.injEq] at hm
   unfold method
   simp only [Sem.run_bind, run_typeInfo' hi, Result.andThen_ok, hf, hm.1, hm.2, follow, Sem.run_pure, receiverAt, run_underlying hu, Place.get, List.size_toArray, List.length_nil, decide_true, if_true, Array.isEmpty, run_wrap', run_asAddr', hE]
theorem inv_line (name : String) (f : FuncId) (hm : ((Tryz.prog.info? 106).bind (fun i => i.methods.find? (·.name == name))).map (fun m => (m.path, m.func)) = some (#[], some (f, false))) (fuel lb : Nat) (A : Option Addr) (n c : Nat) (w : World) (hc : w.cell? ⟨lb, 0, none⟩ = some (.slice A n c)) :
 Sem.run Tryz.prog (method (fuel + 1) 106 (.pointer (some ⟨lb, 0, none⟩)) name) w = .ok (f, .slice A n c) w :=
 run_method_ptr fuel 106 149 name f _ lb w hm (by kernel_rfl) (by simp [loadVar, isAgg, run_underlying (show Tryz.prog.underlying 149 = some (.slice 152) from by kernel_rfl), hc])
theorem inv_less (fuel lb : Nat) (A : Option Addr) (n c : Nat) (w : World) (hc : w.cell? ⟨lb, 0, none⟩ = some (.slice A n c)) :
 Sem.run Tryz.prog (method (fuel + 1) 106 (.pointer (some ⟨lb, 0, none⟩)) "Less") w = .ok (222, .slice A n c) w := inv_line _ _ (by kernel_rfl) fuel lb A n c w hc
theorem inv_swap (fuel lb : Nat) (A : Option Addr) (n c : Nat) (w : World) (hc : w.cell? ⟨lb, 0, none⟩ = some (.slice A n c)) :
 Sem.run Tryz.prog (method (fuel + 1) 106 (.pointer (some ⟨lb, 0, none⟩)) "Swap") w = .ok (225, .slice A n c) w := inv_line _ _ (by kernel_rfl) fuel lb A n c w hc
theorem inv_len (fuel lb : Nat) (A : Option Addr) (n c : Nat) (w : World) (hc : w.cell? ⟨lb, 0, none⟩ = some (.slice A n c)) :
 Sem.run Tryz.prog (method (fuel + 1) 106 (.pointer (some ⟨lb, 0, none⟩)) "Len") w = .ok (144, .slice A n c) w := inv_line _ _ (by kernel_rfl) fuel lb A n c w hc
def lineL (lb : Nat) (A : Option Addr) (c : Nat) (ps : List P3) : List Res := [.blk lb 149 #[.slice A ps.length c], rP ps.length A c ps]
def LineIn (w : World) (lb : Nat) (A : Option Addr) (c : Nat) (ps : List P3) : Prop := Sep (fps (lineL lb A c ps)) w w (lineL lb A c ps)
def lineV (lb : Nat) : Value := .iface 106 (.pointer (some ⟨lb, 0, none⟩))
theorem LineIn.of {S : List Nat} {w W : World} {lb : Nat} {A : Option Addr} {c : Nat} {ps : List P3} {rs : List Res} (M : Sep S w W (lineL lb A c ps ++ rs)) : LineIn W lb A c ps := Sep.same M (Below.refl _ _)
theorem Sep.swapped {S : List Nat} {w W W' : World} {lb : Nat} {A : Option Addr} {c : Nat} {ps : List P3} {i j : Nat} (M : Sep S w W (lineL lb A c ps)) (k : Sep (fps [rP ps.length A c ps]) W W' [rP ps.length A c (swapL ps i j)]) : Sep S w W' (lineL lb A c (swapL ps i j)) := by
 have h := Sep.comp (ps := [rP ps.length A c ps]) (rs := [.blk lb 149 #[.slice A ps.length c]]) (M.front 1 rfl) k
 have h2 := h.front 1 rfl
 unfold lineL
 rw [swapL_length]
 exact h2
set_option maxRecDepth 100000 in
set_option maxHeartbeats 4000000 in
theorem hup_any (ps : List P3) (lb : Nat) (A : Option Addr) (c j : Nat) (hj : j < ps.length) (hl : ps.length ≤ 1048576) (w : World) (hh : HeapUp ps j) (h : LineIn w lb A c ps) :
 Calls Tryz.prog 180 #[lineV lb, .int .i64 j] w fun r w' => (∃ v, r = .returned v) ∧ ∃ qs : List P3, qs.length = ps.length ∧ qs.Perm ps ∧ HeapL qs ∧ Sep (fps (lineL lb A c ps)) w w' (lineL lb A c qs) := by
 unfold lineV
 have H := hide (⟨hh, h⟩ : _ ∧ _)
 clear hh h
 go_enter Tryz.func180, Tryz.ntmps180
 go_wp2_with fail
 go_loopw [1] (fun i wr => ∃ (j : Nat) (qs : List P3), i = .int .i64 j ∧ j < qs.length ∧ Hid (qs.Perm ps ∧ HeapUp qs j) ∧ Sep (fps (lineL lb A c ps)) w wr (lineL lb A c qs)) (fun i _ => (intOf i).toNat)
 case atStart => exact ⟨j, ps, rfl, hj, hide ⟨List.Perm.refl _, H.out.1⟩, H.out.2⟩
 case round =>
  clear H hj
  obtain ⟨j, qs, rfl, hj, HP, M⟩ := hrel
  have hql : qs.length ≤ 1048576 := by rw [HP.out.1.length_eq]; exact hl
  have qL : wr.cell? ⟨lb, 0, none⟩ = some (.slice A qs.length c) := M.cell 0 0 rfl
  by_cases h0 : j = 0
  ·subst h0
   go_wp2_with fail
   go_end0
   exact ⟨⟨_, rfl⟩, qs, HP.out.1.length_eq, HP.out.1, HP.out.2.zero, M⟩
  ·have hq : ((j : Int) - 1) / 2 = (par j : Int) := by unfold par; omega
   have hne : ¬ (par j : Int) = (j : Int) := by unfold par; omega
   have hpl : par j < j := par_lt (by omega)
   go_wp2_with fail
   rw [inv_less _ lb A qs.length c _ qL]
   go_wp2_with fail
   go_call (less_any qs A c j (par j) hj (by omega) (by omega) _ (M.rowS 1 rfl)) as r W1 ⟨rfl, g1⟩
   replace M := M.call g1
   clear qL
   have qL : W1.cell? ⟨lb, 0, none⟩ = some (.slice A qs.length c) := M.cell 0 0 rfl
   obtain ⟨bb, hbb⟩ : ∃ bb, bb = aheadP qs[j] qs[par j] := ⟨_, rfl⟩
   rw [← hbb]
   have HB := hide hbb
   clear hbb
   cases bb
   ·go_wp2_with fail
    go_end0
    refine ⟨⟨_, rfl⟩, qs, HP.out.1.length_eq, HP.out.1, HP.out.2.done ?_, M⟩
    unfold at3
    rw [getD3 hj, getD3 (by omega)]
    exact HB.out.symm
   ·go_wp2_with fail
    rw [inv_swap _ lb A qs.length c _ qL]
    go_wp2_with fail
    go_call (swap_any qs A c (par j) j (by omega) hj (by omega) _ (M.rowAt 1 rfl)) as r W2 ⟨⟨v, rfl⟩, g2⟩
    replace M := M.swapped g2
    clear qL
    go_wp2_with fail
    go_roundw
    ·refine ⟨par j, swapL qs (par j) j, by go_num, by rw [swapL_length]; omega, hide ⟨(swapL_perm (by omega) hj).trans HP.out.1, HP.out.2.swap (by omega) hj ?_⟩, M⟩
     unfold at3
     rw [getD3 hj, getD3 (by omega)]
     exact HB.out.symm
    ·simp [intOf]; omega
def DnR (qs0 : List P3) (x : P3) (i : Nat) (rs : List P3) : Prop := ∃ qs : List P3, rs = qs ++ [x] ∧ qs.Perm qs0 ∧ HeapDn qs i
theorem at3_app {qs : List P3} {x : P3} {k : Nat} (h : k < qs.length) : at3 (qs ++ [x]) k = at3 qs k := by
 unfold at3; rw [getD3 (by simp; omega), getD3 h, List.getElem_append_left h]
theorem DnR.len {qs0 : List P3} {x : P3} {i : Nat} {rs : List P3} (h : DnR qs0 x i rs) : rs.length = qs0.length + 1 := by
 obtain ⟨qs, rfl, hp, _⟩ := h
 simp [hp.length_eq]
theorem DnR.done {qs0 : List P3} {x : P3} {i : Nat} {rs : List P3} (h : DnR qs0 x i rs) (hi : ∀ k, 0 < k → k < qs0.length → par k = i → leP (at3 rs i) (at3 rs k)) : ∃ qs, rs = qs ++ [x] ∧ qs.Perm qs0 ∧ HeapL qs := by
 obtain ⟨qs, rfl, hp, hd⟩ := h
 refine ⟨qs, rfl, hp, hd.done fun k h0 hk hk2 => ?_⟩
 have h1 := hi k h0 (by rw [← hp.length_eq]; exact hk) hk2
 have := par_lt h0
 rwa [at3_app hk, at3_app (by omega)] at h1
theorem DnR.swap {qs0 : List P3} {x : P3} {i j : Nat} {rs : List P3} (h : DnR qs0 x i rs) (h0 : 0 < j) (hj : j < qs0.length) (hp : par j = i) (ha : aheadP (at3 rs j) (at3 rs i) = true)
 (hm : ∀ k, 0 < k → k < qs0.length → par k = i → leP (at3 rs j) (at3 rs k)) : DnR qs0 x j (swapL rs i j) := by
 obtain ⟨qs, rfl, hpm, hd⟩ := h
 have hl := hpm.length_eq
 have h1 := par_lt h0
 rw [at3_app (by omega), at3_app (by omega)] at ha
 refine ⟨swapL qs i j, swapL_append (by omega) (by omega) _, (swapL_perm (by omega) (by omega)).trans hpm, hd.swap h0 (by omega) hp ha fun k h0 hk hk2 => ?_⟩
 have h3 := hm k h0 (by omega) hk2
 rwa [at3_app (by omega), at3_app hk] at h3
theorem at3_get {rs : List P3} {k : Nat} (h : k < rs.length) : at3 rs k = rs[k] := getD3 h
theorem par_two {k i : Nat} (h0 : 0 < k) (h : par k = i) : k = 2 * i + 1 ∨ k = 2 * i + 2 := by unfold par at h; omega
set_option maxRecDepth 100000 in
set_option maxHeartbeats 2000000 in
theorem hdown_any (qs0 : List P3) (x : P3) (rs : List P3) (lb : Nat) (A : Option Addr) (c n : Nat) (hn : n = qs0.length) (hl : rs.length ≤ 1048576) (w : World) (hh : DnR qs0 x 0 rs) (h : LineIn w lb A c rs) :
 Calls Tryz.prog 197 #[lineV lb, .int .i64 0, .int .i64 n] w fun r w' => (∃ v, r = .returned v) ∧ ∃ qs : List P3, qs.Perm qs0 ∧ HeapL qs ∧ Sep (fps (lineL lb A c rs)) w w' (lineL lb A c (qs ++ [x])) := by
 unfold lineV
 have hnl : n < rs.length := by rw [hh.len]; omega
 have H := hide (⟨hh, h, hn⟩ : _ ∧ _ ∧ _)
 clear hh h hn
 go_enter Tryz.func197, Tryz.ntmps197
 go_wp2_with fail
 go_loopw [7] (fun i wr => ∃ (i' : Nat) (ss : List P3), i = .int .i64 i' ∧ i' ≤ n ∧ Hid (n = qs0.length ∧ DnR qs0 x i' ss) ∧ Sep (fps (lineL lb A c rs)) w wr (lineL lb A c ss)) (fun i _ => (n - (intOf i).toNat : Nat))
 case atStart => exact ⟨0, rs, rfl, Nat.zero_le _, hide ⟨H.out.2.2, H.out.1⟩, H.out.2.1⟩
 case round =>
  have hnm : n < 1048576 := by omega
  clear H hnl
  obtain ⟨i, ss, rfl, hi, HP, M⟩ := hrel
  have hsl : n < ss.length := by rw [HP.out.2.len, HP.out.1]; omega
  have hsm : ss.length ≤ 1048576 := by have h1 := HP.out.2.len; have h2 := HP.out.1; omega
  obtain ⟨j1, hj1⟩ : ∃ j1, j1 = 2 * i + 1 := ⟨_, rfl⟩
  have e0 : ¬ 2 * (i : Int) + 1 < 0 := by omega
  have qL : wr.cell? ⟨lb, 0, none⟩ = some (.slice A ss.length c) := M.cell 0 0 rfl
  by_cases h1 : n ≤ j1
  ·have h1z : (n : Int) ≤ 2 * (i : Int) + 1 := by omega
   go_wp2_with fail
   go_ret
   obtain ⟨qs, rfl, hp, hq⟩ := HP.out.2.done (fun k h0 hk hk2 => by have := par_two h0 hk2; have := HP.out.1; omega)
   exact ⟨⟨_, rfl⟩, qs, hp, hq, M⟩
  ·have h1z : ¬ (n : Int) ≤ 2 * (i : Int) + 1 := by omega
   obtain ⟨j2, hj2⟩ : ∃ j2, j2 = j1 + 1 := ⟨_, rfl⟩
   by_cases h2 : j2 < n
   ·have h2z : 2 * (i : Int) + 1 + 1 < (n : Int) := by omega
    go_wp2_with fail
    rw [inv_less _ lb A ss.length c _ qL]
    go_wp2_with fail
    rw [show 2 * (i : Int) + 1 + 1 = (j2 : Int) by omega, show 2 * (i : Int) + 1 = (j1 : Int) by omega]
    apply Calls.mono
    focus with_reducible exact (less_any ss A c j2 j1 (by omega) (by omega) hsm _ (M.rowS 1 rfl))
    rintro r W1 ⟨rfl, g1⟩
    replace M := M.call g1
    clear qL g1
    have qL : W1.cell? ⟨lb, 0, none⟩ = some (.slice A ss.length c) := M.cell 0 0 rfl
    have hb0 : aheadP ss[j2] ss[j1] = aheadP (at3 ss j2) (at3 ss j1) := by rw [at3_get (by omega), at3_get (by omega)]
    rw [hb0]
    clear hb0
    obtain ⟨b1, hb1⟩ : ∃ b1, b1 = aheadP (at3 ss j2) (at3 ss j1) := ⟨_, rfl⟩
    rw [← hb1]
    have HB1 := hide hb1
    clear hb1
    cases b1
    ·have HM : Hid (∀ k, 0 < k → k < qs0.length → par k = i → leP (at3 ss j1) (at3 ss k)) := hide (fun k h0 hk hk2 => by
      rcases par_two h0 hk2 with h3 | h3
      ·rw [show k = j1 by omega]; exact leP.refl _
      ·rw [show k = j2 by omega]; exact HB1.out.symm)
     clear HB1
     go_wp2_with fail
     rw [inv_less _ lb A ss.length c _ qL]
     go_wp2_with fail
     (try rw [show 2 * (i : Int) + 1 + 1 = (j2 : Int) by omega])
     (try rw [show 2 * (i : Int) + 1 = (j1 : Int) by omega])
     apply Calls.mono
     focus with_reducible exact (less_any ss A c j1 i (by omega) (by omega) hsm _ (M.rowS 1 rfl))
     rintro r W2 ⟨rfl, g1⟩
     replace M := M.call g1
     clear qL g1
     have qL : W2.cell? ⟨lb, 0, none⟩ = some (.slice A ss.length c) := M.cell 0 0 rfl
     have hb0 : aheadP ss[j1] ss[i] = aheadP (at3 ss j1) (at3 ss i) := by rw [at3_get (by omega), at3_get (by omega)]
     rw [hb0]
     clear hb0
     obtain ⟨b2, hb2⟩ : ∃ b2, b2 = aheadP (at3 ss j1) (at3 ss i) := ⟨_, rfl⟩
     rw [← hb2]
     have HB2 := hide hb2
     clear hb2
     cases b2
     ·go_wp2_with fail
      go_ret
      obtain ⟨qs, rfl, hp, hq⟩ := HP.out.2.done (fun k h0 hk hk2 => leP.trans HB2.out.symm (HM.out k h0 hk hk2))
      exact ⟨⟨_, rfl⟩, qs, hp, hq, M⟩
     ·go_wp2_with fail
      rw [inv_swap _ lb A ss.length c _ qL]
      go_wp2_with fail
      (try rw [show 2 * (i : Int) + 1 + 1 = (j2 : Int) by omega])
      (try rw [show 2 * (i : Int) + 1 = (j1 : Int) by omega])
      have hR : (rP ss.length A c ss).here W2 := M.rowAt 1 rfl
      apply Calls.mono
      focus with_reducible exact (swap_any ss A c i j1 (by omega) (by omega) hsm _ hR)
      clear hR
      rintro r W3 ⟨⟨v, rfl⟩, g2⟩
      replace M := M.swapped g2
      clear qL
      go_wp2_with fail
      go_roundw
      ·exact ⟨j1, swapL ss i j1, by go_num, by omega, hide ⟨HP.out.1, HP.out.2.swap (by omega) (by have := HP.out.1; omega) (by unfold par; omega) HB2.out.symm HM.out⟩, M⟩
      ·simp [intOf]; omega
    ·have HM : Hid (∀ k, 0 < k → k < qs0.length → par k = i → leP (at3 ss j2) (at3 ss k)) := hide (fun k h0 hk hk2 => by
      rcases par_two h0 hk2 with h3 | h3
      ·rw [show k = j1 by omega]; exact leP.of_ahead HB1.out.symm
      ·rw [show k = j2 by omega]; exact leP.refl _)
     clear HB1
     go_wp2_with fail
     rw [inv_less _ lb A ss.length c _ qL]
     go_wp2_with fail
     (try rw [show 2 * (i : Int) + 1 + 1 = (j2 : Int) by omega])
     (try rw [show 2 * (i : Int) + 1 = (j1 : Int) by omega])
     apply Calls.mono
     focus with_reducible exact (less_any ss A c j2 i (by omega) (by omega) hsm _ (M.rowS 1 rfl))
     rintro r W2 ⟨rfl, g1⟩
     replace M := M.call g1
     clear qL g1
     have qL : W2.cell? ⟨lb, 0, none⟩ = some (.slice A ss.length c) := M.cell 0 0 rfl
     have hb0 : aheadP ss[j2] ss[i] = aheadP (at3 ss j2) (at3 ss i) := by rw [at3_get (by omega), at3_get (by omega)]
     rw [hb0]
     clear hb0
     obtain ⟨b2, hb2⟩ : ∃ b2, b2 = aheadP (at3 ss j2) (at3 ss i) := ⟨_, rfl⟩
     rw [← hb2]
     have HB2 := hide hb2
     clear hb2
     cases b2
     ·go_wp2_with fail
      go_ret
      obtain ⟨qs, rfl, hp, hq⟩ := HP.out.2.done (fun k h0 hk hk2 => leP.trans HB2.out.symm (HM.out k h0 hk hk2))
      exact ⟨⟨_, rfl⟩, qs, hp, hq, M⟩
     ·go_wp2_with fail
      rw [inv_swap _ lb A ss.length c _ qL]
      go_wp2_with fail
      (try rw [show 2 * (i : Int) + 1 + 1 = (j2 : Int) by omega])
      (try rw [show 2 * (i : Int) + 1 = (j1 : Int) by omega])
      have hR : (rP ss.length A c ss).here W2 := M.rowAt 1 rfl
      apply Calls.mono
      focus with_reducible exact (swap_any ss A c i j2 (by omega) (by omega) hsm _ hR)
      clear hR
      rintro r W3 ⟨⟨v, rfl⟩, g2⟩
      replace M := M.swapped g2
      clear qL
      go_wp2_with fail
      go_roundw
      ·exact ⟨j2, swapL ss i j2, by go_num, by omega, hide ⟨HP.out.1, HP.out.2.swap (by omega) (by have := HP.out.1; omega) (by unfold par; omega) HB2.out.symm HM.out⟩, M⟩
      ·simp [intOf]; omega
   ·have h2z : ¬ 2 * (i : Int) + 1 + 1 < (n : Int) := by omega
    have HM : Hid (∀ k, 0 < k → k < qs0.length → par k = i → leP (at3 ss j1) (at3 ss k)) := hide (fun k h0 hk hk2 => by
     have := HP.out.1
     rcases par_two h0 hk2 with h3 | h3
     ·rw [show k = j1 by omega]; exact leP.refl _
     ·omega)
    go_wp2_with fail
    rw [inv_less _ lb A ss.length c _ qL]
    go_wp2_with fail
    (try rw [show 2 * (i : Int) + 1 + 1 = (j2 : Int) by omega])
    (try rw [show 2 * (i : Int) + 1 = (j1 : Int) by omega])
    apply Calls.mono
    focus with_reducible exact (less_any ss A c j1 i (by omega) (by omega) hsm _ (M.rowS 1 rfl))
    rintro r W2 ⟨rfl, g1⟩
    replace M := M.call g1
    clear qL g1
    have qL : W2.cell? ⟨lb, 0, none⟩ = some (.slice A ss.length c) := M.cell 0 0 rfl
    have hb0 : aheadP ss[j1] ss[i] = aheadP (at3 ss j1) (at3 ss i) := by rw [at3_get (by omega), at3_get (by omega)]
    rw [hb0]
    clear hb0
    obtain ⟨b2, hb2⟩ : ∃ b2, b2 = aheadP (at3 ss j1) (at3 ss i) := ⟨_, rfl⟩
    rw [← hb2]
    have HB2 := hide hb2
    clear hb2
    cases b2
    ·go_wp2_with fail
     go_ret
     obtain ⟨qs, rfl, hp, hq⟩ := HP.out.2.done (fun k h0 hk hk2 => leP.trans HB2.out.symm (HM.out k h0 hk hk2))
     exact ⟨⟨_, rfl⟩, qs, hp, hq, M⟩
    ·go_wp2_with fail
     rw [inv_swap _ lb A ss.length c _ qL]
     go_wp2_with fail
     (try rw [show 2 * (i : Int) + 1 + 1 = (j2 : Int) by omega])
     (try rw [show 2 * (i : Int) + 1 = (j1 : Int) by omega])
     have hR : (rP ss.length A c ss).here W2 := M.rowAt 1 rfl
     apply Calls.mono
     focus with_reducible exact (swap_any ss A c i j1 (by omega) (by omega) hsm _ hR)
     clear hR
     rintro r W3 ⟨⟨v, rfl⟩, g2⟩
     replace M := M.swapped g2
     clear qL
     go_wp2_with fail
     go_roundw
     ·exact ⟨j1, swapL ss i j1, by go_num, by omega, hide ⟨HP.out.1, HP.out.2.swap (by omega) (by have := HP.out.1; omega) (by unfold par; omega) HB2.out.symm HM.out⟩, M⟩
     ·simp [intOf]; omega
theorem sepOneB {w w' : World} {g : Nat} {t e : TypeId} {cs : Array Value} {size n : Nat} {v : Value} {xs : List Value} (hv : ∀ k, v.ownBlock = some k → some g = some k) (hg : w.grownBy w' (some g)) (h : w'.ownsRow 0 e size v n xs) : Sep (fps [.blk g t cs]) w w' [.row e size v n xs] :=
 ⟨hg.os, hg.tape, hg.output, hg.size, fun b hlt hn => hg.block b hlt (fun e' => hn (mem_fps.2 ⟨_, List.mem_singleton_self _, e'.symm⟩)), fun x hx => by rw [List.mem_singleton.1 hx]; exact h, fun x hx k hgx => by
  rw [List.mem_singleton.1 hx] at hgx
  exact .inl (mem_fps.2 ⟨_, List.mem_singleton_self _, hv k hgx⟩), List.pairwise_singleton _ _⟩
theorem run_append_sep {P : Program} {w : World} (t ty e : TypeId) (i : TypeInfo) (z : Value) (size bytes : Nat) (ht : P.underlying t = some (.slice e)) (hi : P.info? e = some i) (hz : i.zero = some z)
 (hsize : i.size = size) (hby : i.bytes = bytes) (hzs : z.cells.size = size) (hsz : 0 < size) (A : Option Addr) (n c : Nat) (xs : List Value) (hown : w.ownsRow 0 e size (.slice A n c) n xs)
 (sp : Addr) (m cc : Nat) (news : List Value) (hl : news.length = m * size) (hrow : Row w (some sp) news) (hne : 0 < news.length) (h1 : ∀ u ∈ news, u.oneCell' = true)
 (h63 : n + m ≤ maxLen) (hbytes : (n + m) * bytes ≤ 140737488355328) :
 ∃ A' c' w', (Builtin.append_ #[t, t] ty #[.slice A n c, .slice (some sp) m cc]).run P w = .ok (.slice A' (n + m) c') w' ∧ Sep (fps [.row e size (.slice A n c) n xs]) w w' [.row e size (.slice A' (n + m) c') (n + m) (xs ++ news)] := by
 obtain ⟨b, off, hsp, hc⟩ := hrow hne
 injection hsp with hsp
 subst hsp
 have hnews : ∀ j u, news[j]? = some u → w.cell? ((⟨b, off, none⟩ : Addr).add j) = some u := fun j u hu => by
  rw [show (⟨b, off, none⟩ : Addr).add j = ⟨b, off + j, none⟩ from by unfold Addr.add; split <;> simp_all]
  exact hc j u hu
 have hm : 0 < m := by
  rcases Nat.eq_zero_or_pos m with h | h
  ·subst h; rw [Nat.zero_mul] at hl; omega
  ·exact h
 have form : ∀ {base : Nat} {v' : Value} {w' : World}, w'.ownsRow base e size v' (n + m) (xs ++ news) → ∃ g c', v' = .slice (some ⟨g, 0, none⟩) (n + m) c' ∧ base ≤ g := fun h => by
  rcases h.2 with ⟨_, h0⟩ | ⟨g, cap, cur, hv, hb, _⟩
  ·omega
  ·exact ⟨g, cap, hv, hb⟩
 rcases hown.2 with ⟨hv, hn0⟩ | ⟨g, cap, cur, hv, hbg, hg, hnc, hcm, hcs, htake⟩
 ·injection hv with hA _ hcc
  have hx : xs = [] := List.eq_nil_of_length_eq_zero (by rw [hown.1, hn0]; simp)
  subst hA hcc hn0 hx
  obtain ⟨v', w', hr, ho, hgr, _⟩ := run_append_own (P := P) w w.heap.size t ty e i z size bytes ht hi hz hsize hby hzs hsz _ 0 [] (World.ownsRow_nil w _ e size) ⟨b, off, none⟩ m cc news hl hnews h1 h63 hbytes (Nat.le_refl _)
  obtain ⟨g, c', rfl, hge⟩ := form ho
  exact ⟨_, _, w', hr, sepOne (fun x hx => .inr (by have h5 : g = x := (by simpa [Value.ownBlock] using hx); omega)) hgr (Own.lower ho (Nat.zero_le _))⟩
 ·injection hv with hA _ hcc
  subst hA hcc
  by_cases hroom : n + m ≤ c
  ·have hfit : n * i.size + news.length ≤ cur.size := by rw [hl, hcs, hsize, ← Nat.add_mul]; exact Nat.mul_le_mul_right _ hroom
   have hr := run_append_room (P := P) w t ty e i ht hi g n c cur hg ⟨b, off, none⟩ m cc news (by rw [hsize]; exact hl) hnews h1 hroom hfit
   obtain ⟨v', w', hr2, ho, hgr, _⟩ := run_append_own (P := P) w 0 t ty e i z size bytes ht hi hz hsize hby hzs hsz _ n xs hown ⟨b, off, none⟩ m cc news hl hnews h1 h63 hbytes (Nat.zero_le _)
   rw [hr] at hr2
   injection hr2 with e1 e2
   subst e1 e2
   exact ⟨_, _, _, hr, sepOne (fun x hx => .inl hx) hgr ho⟩
  ·obtain ⟨v', w', hr, ho, hgr⟩ := run_append_arg_grows (P := P) w t ty e i z size bytes ht hi hz hsize hby hzs hsz ⟨g, 0, none⟩ n c xs hown.1 (hown.cells (g := g) rfl) ⟨b, off, none⟩ m cc news hl hnews (by omega) h63 hbytes
   obtain ⟨g', c', rfl, hge⟩ := form ho
   exact ⟨_, _, w', hr, sepOne (fun x hx => .inr (by have h5 : g' = x := (by simpa [Value.ownBlock] using hx); omega)) ⟨hgr.os, hgr.tape, hgr.output, hgr.size, fun k hk _ => hgr.block k hk (by simp)⟩ (Own.lower ho (Nat.zero_le _))⟩
theorem wpList_append_sep {P : Program} {w : World} {ops : Array Oper} {rest : List Oper} {o : Oper} {a : Act} {Q : Exit → Act → World → Prop} (hgd : o.guard = none) (s x : Operand) (t : TypeId)
 (ho : o.op = .call { callee := .builtin .append, args := #[s, x], argTypes := #[t, t] })
 (e : TypeId) (i : TypeInfo) (z : Value) (size bytes : Nat) (ht : P.underlying t = some (.slice e)) (hi : P.info? e = some i) (hz : i.zero = some z)
 (hsize : i.size = size) (hby : i.bytes = bytes) (hzs : z.cells.size = size) (hsz : 0 < size)
 (A : Option Addr) (n c : Nat) (xs : List Value) (hs : a.eval s = .slice A n c) (hown : w.ownsRow 0 e size (.slice A n c) n xs)
 (sp : Addr) (m cc : Nat) (news : List Value) (hx : a.eval x = .slice (some sp) m cc) (hl : news.length = m * size) (hrow : Row w (some sp) news) (hne : 0 < news.length) (h1 : ∀ u ∈ news, u.oneCell' = true)
 (h63 : n + m ≤ maxLen) (hbytes : (n + m) * bytes ≤ 140737488355328)
 (h : ∀ A' c' w', Sep (fps [.row e size (.slice A n c) n xs]) w w' [.row e size (.slice A' (n + m) c') (n + m) (xs ++ news)] → wpList P ops Q rest (a.put o.dst (.slice A' (n + m) c')) w') : wpList P ops Q (o :: rest) a w := by
 refine wpList_plain hgd fun K hK => ?_
 obtain ⟨A', c', w', hrun, r1⟩ := run_append_sep (P := P) (w := w) t o.type e i z size bytes ht hi hz hsize hby hzs hsz A n c xs hown sp m cc news hl hrow hne h1 h63 hbytes
 unfold Oper.wp
 simp [execOp, ho, resolve, invoke, builtin, hs, hx, hrun, Result.andThen]
 exact hK _ _ (h A' c' w' r1)
theorem step_append_sep {P : Program} {ops : Array Oper} {o : Oper} {a : Act} {w : World} {K : Act → World → Prop} {Q : Exit → Act → World → Prop} {E : Prop} (hgd : o.guard = none) (s x : Operand) (t : TypeId)
 (ho : o.op = .call { callee := .builtin .append, args := #[s, x], argTypes := #[t, t] })
 (e : TypeId) (i : TypeInfo) (z : Value) (size bytes : Nat) (ht : P.underlying t = some (.slice e)) (hi : P.info? e = some i) (hz : i.zero = some z)
 (hsize : i.size = size) (hby : i.bytes = bytes) (hzs : z.cells.size = size) (hsz : 0 < size)
 (A : Option Addr) (n c : Nat) (xs : List Value) (hs : a.eval s = .slice A n c) (hown : w.ownsRow 0 e size (.slice A n c) n xs)
 (sp : Addr) (m cc : Nat) (news : List Value) (hx : a.eval x = .slice (some sp) m cc) (hl : news.length = m * size) (hrow : Row w (some sp) news) (hne : 0 < news.length) (h1 : ∀ u ∈ news, u.oneCell' = true)
 (h63 : n + m ≤ maxLen) (hbytes : (n + m) * bytes ≤ 140737488355328)
 (h : ∀ A' c' w', Sep (fps [.row e size (.slice A n c) n xs]) w w' [.row e size (.slice A' (n + m) c') (n + m) (xs ++ news)] → K (a.put o.dst (.slice A' (n + m) c')) w') :
 if Region.wanted o (yielded ops a.tmps) = true then Oper.wp P o a w K Q else E := by
 have hw : Region.wanted o (yielded ops a.tmps) = true := by simp [Region.wanted, hgd]
 rw [if_pos hw]
 obtain ⟨A', c', w', hrun, r1⟩ := run_append_sep (P := P) (w := w) t o.type e i z size bytes ht hi hz hsize hby hzs hsz A n c xs hown sp m cc news hl hrow hne h1 h63 hbytes
 unfold Oper.wp
 simp [execOp, ho, resolve, invoke, builtin, hs, hx, hrun, Result.andThen]
 exact h A' c' w' r1
end Go.Proofs.YtfkdfkoigojciaaGreatDoor
