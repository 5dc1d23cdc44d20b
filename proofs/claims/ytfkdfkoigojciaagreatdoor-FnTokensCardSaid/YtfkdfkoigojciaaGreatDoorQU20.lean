import Derived.Test.YtfkdfkoigojciaaGreatDoorQU19
import Derived.Test.YtfkdfkoigojciaaGreatDoorQU12
import Derived.Shelf.Abstract
import Derived.Test.YtfkdfkoigojciaaGreatDoorQU18
import Derived.Test.YtfkdfkoigojciaaGreatDoorQU14
import Derived.Test.YtfkdfkoigojciaaGreatDoorQU15
import Derived.Test.YtfkdfkoigojciaaGreatDoorQU11
import Derived.Test.YtfkdfkoigojciaaGreatDoorQU10

namespace Go.Proofs.YtfkdfkoigojciaaGreatDoor
open Go.RowKit
set_option linter.unusedVariables false
set_option maxHeartbeats 4000000
set_option maxRecDepth 100000
theorem rowLit3 (w : World) (t : TypeId) (v0 v1 v2 : Value) : Row (w.alloc (.cells #[v0, v1, v2] t)) (some ⟨w.heap.size, 0, none⟩) [v0, v1, v2] :=
 Row.of_own (World.ownsRow_lit (base := 0) (e := t) (size := 3) w #[v0, v1, v2] 1 (Nat.zero_le _) (by simp [maxLen]) (by simp))
theorem pcells_snoc (ps : List P3) (x : P3) : pcells ps ++ x.cs = pcells (ps ++ [x]) := by simp [pcells]
theorem info_parts3 : ∃ i : TypeInfo, Tryz.prog.info? 152 = some i ∧ i.zero = some (.agg #[.int .i64 0, .int .i64 0, .int .i64 0]) ∧ i.size = 3 ∧ i.bytes = 24 := by
 have h := infoPlace
 cases hi : Tryz.prog.info? 152 with
 | none => rw [hi] at h; cases h
 | some i =>
  rw [hi] at h
  simp only [Option.map_some, Option.some.injEq, Prod.mk.injEq] at h
  exact ⟨i, rfl, h.1, h.2.1, h.2.2⟩
theorem assert_place (v : Value) (w : World) : Sem.run Tryz.prog (Instr.typeAssert (.iface 152 v) 20 152 false) w = .ok v w := by kernel_rfl
theorem Sep.pushed {S : List Nat} {w W W' : World} {lb : Nat} {A A' : Option Addr} {c c' n : Nat} {ps : List P3} {x : P3} (hn : n = ps.length) (M : Sep S w W (lineL lb A c ps)) (k : Sep (fps [rP ps.length A c ps]) W W' [rP (n + 1) A' c' (ps ++ [x])]) : Sep S w (W'.setCell ⟨lb, 0, none⟩ (.slice A' (n + 1) c')) (lineL lb A' c' (ps ++ [x])) := by
 subst hn
 have h := Sep.comp (ps := [rP ps.length A c ps]) (rs := [.blk lb 149 #[.slice A ps.length c]]) (M.front 1 rfl) k
 have h2 := (h.front 1 rfl).set 0 rfl 0 (.slice A' (ps.length + 1) c')
 have e : (ps ++ [x]).length = ps.length + 1 := by simp
 unfold lineL
 rw [e]
 exact h2
theorem push_any (ps : List P3) (lb : Nat) (A : Option Addr) (c : Nat) (l t i : Int) (hl : ps.length < 1048576) (w : World) (h : LineIn w lb A c ps) :
 Calls Tryz.prog 224 #[.pointer (some ⟨lb, 0, none⟩), .iface 152 (.agg #[.int .i64 l, .int .i64 t, .int .i64 i])] w fun r w' => (∃ v, r = .returned v) ∧ ∃ A' c', Sep (fps (lineL lb A c ps)) w w' (lineL lb A' c' (ps ++ [⟨l, t, i⟩])) := by
 obtain ⟨i0, hi, hz0, hz1, hz2⟩ := info_parts3
 have qL : w.cell? ⟨lb, 0, none⟩ = some (.slice A ps.length c) := Sep.cell h 0 0 rfl
 have fL : w.frozen? ⟨lb, 0, none⟩ = false := Sep.fz h 0 0 rfl
 have hta := fun w => assert_place (.agg #[.int .i64 l, .int .i64 t, .int .i64 i]) w
 have H := hide h
 clear h
 go_enter Tryz.func224, Tryz.ntmps224
 go_wp2_with fail
 refine wp_region_T (S := (fun w' => w'.cell? ⟨lb, 0, none⟩ = some (.slice A ps.length c))) (ks := [9]) (by kernel_rfl) qL (fun hHeld => ?_)
 refine tkYa 0 _ rfl (fun _ => hHeld) ?_
 try simp only [Act.put, zI, zZ, zS]
 refine tkYa 1 _ rfl (fun _ => hHeld) ?_
 try simp only [Act.put, zI, zZ, zS]
 refine tkYa 2 _ rfl (fun _ => hHeld) ?_
 try simp only [Act.put, zI, zZ, zS]
 refine tkLa 3 _ rfl hHeld ?_
 try simp only [Act.put, zI, zZ, zS]
 refine tkYa 4 _ rfl (fun _ => hHeld) ?_
 try simp only [Act.put, zI, zZ, zS]
 refine tkYa 5 _ rfl (fun _ => hHeld) ?_
 try simp only [Act.put, zI, zZ, zS]
 refine wpAnyT_callL (i := 6) rfl (by kernel_rfl) (fun K hK => ?_)
 go_simp
 refine hK.out _ _ ?_ (fun hHeld => ?_)
 ·exact (Sep.cell (Sep.allocN H.out _ _) 1 0 rfl)
 clear hK K
 try simp only [Act.put, zI, zZ, zS]
 have M1 : Sep (fps (lineL lb A c ps)) w (w.alloc (.cells #[.int .i64 l, .int .i64 t, .int .i64 i] 152)).drew (.blk w.heap.size 152 #[.int .i64 l, .int .i64 t, .int .i64 i] :: lineL lb A c ps) := Sep.drew (Sep.allocN H.out 152 #[.int .i64 l, .int .i64 t, .int .i64 i])
 have hR1 : Row (w.alloc (.cells #[.int .i64 l, .int .i64 t, .int .i64 i] 152)).drew (some ⟨w.heap.size, 0, none⟩) [.int .i64 l, .int .i64 t, .int .i64 i] := rowLit3 w 152 _ _ _
 generalize (w.alloc (.cells #[.int .i64 l, .int .i64 t, .int .i64 i] 152)).drew = W1 at M1 hR1 hHeld ⊢
 have hO : W1.ownsRow 0 152 3 (.slice A ps.length c) ps.length (pcells ps) := Sep.rowAt M1 2 rfl
 refine wpAnyT_callL (i := 7) rfl (by kernel_rfl) (fun K hK => ?_)
 refine step_append_sep rfl (.tmp 7) (.tmp 10) 149 rfl 152 i0 (.agg #[.int .i64 0, .int .i64 0, .int .i64 0]) 3 24 Tryz.underlying149 hi hz0 hz1 hz2 rfl (by decide) A ps.length c (pcells ps) rfl hO ⟨w.heap.size, 0, none⟩ 1 1 [.int .i64 l, .int .i64 t, .int .i64 i] rfl rfl hR1 (by simp) (by simp [Value.oneCell']) (by unfold maxLen; omega) (by omega) ?_
 intro A' c' W2 k
 have k' : Sep (fps [rP ps.length A c ps]) W1 W2 [rP (ps.length + 1) A' c' (ps ++ [⟨l, t, i⟩])] := by unfold rP; rw [← pcells_snoc]; exact k
 have M2 := Sep.comp (ps := [rP ps.length A c ps]) (rs := [.blk lb 149 #[.slice A ps.length c]]) ((Sep.tail M1).front 1 rfl) k'
 have fL2 : W2.frozen? ⟨lb, 0, none⟩ = false := Sep.fz M2 1 0 rfl
 have tL2 := Sep.lt M2 1 rfl
 refine hK.out _ _ ?_ (fun hHeld => ?_)
 ·exact Sep.cell M2 1 0 rfl
 clear hK K
 try simp only [Act.put, zI, zZ, zS]
 refine tkYa 8 _ rfl (fun _ => hHeld) ?_
 try simp only [Act.put, zI, zZ, zS]
 refine wpAnyT_oneL (i := 9) rfl (by kernel_rfl) (by kernel_rfl) (fun K hK => ?_)
 go_simp
 refine hK.out _ _ ?_
 clear hK K
 try simp only [Act.put, zI, zZ, zS]
 refine wpAnyT_done (by kernel_rfl) ?_ _
 go_end0
 refine ⟨⟨_, rfl⟩, A', c', ?_⟩
 exact Sep.pushed rfl (Sep.tail M1) k'
theorem hpush_any (ps : List P3) (lb : Nat) (A : Option Addr) (c : Nat) (l t i : Int) (hl : ps.length < 1048576) (w : World) (hh : HeapL ps) (h : LineIn w lb A c ps) :
 Calls Tryz.prog 143 #[lineV lb, .iface 152 (.agg #[.int .i64 l, .int .i64 t, .int .i64 i])] w fun r w' => (∃ v, r = .returned v) ∧ ∃ A' c' qs, qs.Perm (ps ++ [⟨l, t, i⟩]) ∧ HeapL qs ∧ Sep (fps (lineL lb A c ps)) w w' (lineL lb A' c' qs) := by
 unfold lineV
 have H := hide (⟨h, hh⟩ : _ ∧ _)
 clear h hh
 go_enter Tryz.func143, Tryz.ntmps143
 go_wp2_with fail
 go_call (push_any ps lb A c l t i hl _ H.out.1) as r W1 ⟨⟨v, rfl⟩, A', c', M⟩
 have qL : W1.cell? ⟨lb, 0, none⟩ = some (.slice A' (ps ++ [(⟨l, t, i⟩ : P3)]).length c') := Sep.cell M 0 0 rfl
 obtain ⟨qs, hqs⟩ : ∃ qs, qs = ps ++ [(⟨l, t, i⟩ : P3)] := ⟨_, rfl⟩
 rw [← hqs] at M qL
 have HQ := hide (⟨hqs, show HeapUp qs ps.length from by rw [hqs]; exact H.out.2.push _, show qs.length = ps.length + 1 from by rw [hqs]; simp⟩ : _ ∧ _ ∧ _)
 have hql : qs.length ≤ 1048576 := by have := HQ.out.2.2; omega
 clear hqs
 go_wp2_with fail
 rw [inv_len _ lb A' qs.length c' _ qL]
 go_wp2_with fail
 go_call (len_any A' qs.length c' _) as r W2 ⟨rfl, rfl⟩
 go_wp2_with fail
 rw [show (qs.length : Int) - 1 = (ps.length : Int) from by have := HQ.out.2.2; omega]
 have hU := hup_any qs lb A' c' ps.length (by have := HQ.out.2.2; omega) hql _ HQ.out.2.1 (LineIn.of (rs := []) M)
 unfold lineV at hU
 apply Calls.mono
 focus with_reducible exact hU
 rintro r W3 ⟨⟨v', rfl⟩, qs', hn', hp', hh', M'⟩
 go_wp2_with fail
 go_end0
 refine ⟨⟨_, rfl⟩, A', c', qs', by rw [← HQ.out.1]; exact hp', hh', ?_⟩
 have := Sep.comp (ps := lineL lb A' c' qs) (rs := []) M M'
 exact this
set_option maxHeartbeats 1000000
set_option maxRecDepth 100000
theorem Sep.popped {S : List Nat} {w W W' : World} {lb g : Nat} {c n : Nat} {qs : List P3} {x : P3} (hn : n = qs.length) (M : Sep S w W (lineL lb (some ⟨g, 0, none⟩) c (qs ++ [x]))) (hb : Below W.heap.size W W') : Sep S w (W'.setCell ⟨lb, 0, none⟩ (.slice (some ⟨g, 0, none⟩) n c)) (lineL lb (some ⟨g, 0, none⟩) c qs) := by
 subst hn
 have M2 := M.call hb
 have h1 : W'.ownsRow 0 152 3 (.slice (some ⟨g, 0, none⟩) (qs ++ [x]).length c) (qs ++ [x]).length (pcells (qs ++ [x])) := M2.rowAt 1 rfl
 have h2 := Own.cut h1 (k := qs.length) (by simp)
 rw [pcells_take, List.take_left] at h2
 have k : Sep (fps [rP (qs ++ [x]).length (some ⟨g, 0, none⟩) c (qs ++ [x])]) W' W' [rP qs.length (some ⟨g, 0, none⟩) c qs] := sepOne (fun _ h => .inl h) (World.grownBy.refl _ _) h2
 have h3 := Sep.comp (ps := [rP (qs ++ [x]).length (some ⟨g, 0, none⟩) c (qs ++ [x])]) (rs := [.blk lb 149 #[.slice (some ⟨g, 0, none⟩) (qs ++ [x]).length c]]) (M2.front 1 rfl) k
 exact (h3.front 1 rfl).set 0 rfl 0 (.slice (some ⟨g, 0, none⟩) qs.length c)
theorem pop_any (qs : List P3) (x : P3) (lb : Nat) (A : Option Addr) (c : Nat) (hl : qs.length < 1048576) (w : World) (h : LineIn w lb A c (qs ++ [x])) :
 Calls Tryz.prog 223 #[.pointer (some ⟨lb, 0, none⟩)] w fun r w' => r = .returned (.iface 152 x.val) ∧ Sep (fps (lineL lb A c (qs ++ [x]))) w w' (lineL lb A c qs) := by
 obtain ⟨ps, hps⟩ : ∃ ps, ps = qs ++ [x] := ⟨_, rfl⟩
 rw [← hps] at h
 have hlen : ps.length = qs.length + 1 := by rw [hps]; simp
 have hR : (rP ps.length A c ps).here w := Sep.here h _ (by simp [lineL])
 obtain ⟨g, rfl, hgl, hfz⟩ := rP_form hR (by omega)
 obtain ⟨b, off, e, hb, z0, z1, z2⟩ := (Row.of_own hR).ps_at (k := qs.length) (by omega)
 injection e with e
 injection e with e1 e2
 subst e1 e2
 simp only [Nat.zero_add] at z0 z1 z2
 have hx : ps[qs.length] = x := by subst hps; simp
 rw [hx] at z0 z1 z2
 have qL : w.cell? ⟨lb, 0, none⟩ = some (.slice (some ⟨g, 0, none⟩) ps.length c) := Sep.cell h 0 0 rfl
 have fL : w.frozen? ⟨lb, 0, none⟩ = false := Sep.fz h 0 0 rfl
 have tL : lb < w.heap.size := Sep.lt h 0 rfl
 have ne : w.heap.size ≠ lb := by omega
 have ne2 : w.heap.size ≠ g := by omega
 have hcap : ps.length ≤ c := own_cap (show w.ownsRow 0 152 3 (.slice (some ⟨g, 0, none⟩) ps.length c) ps.length (pcells ps) from hR)
 have H := hide (⟨h, hps, hlen⟩ : _ ∧ _ ∧ _)
 rw [← hps]
 have hn : (ps.length : Int) - 1 = (qs.length : Int) := by omega
 have hn1 : (qs.length : Int) < (ps.length : Int) := by omega
 have hn0 : (0 : Int) ≤ (qs.length : Int) := by omega
 have hn2 : (qs.length : Int) ≤ (c : Int) := by omega
 have hn3 : qs.length ≤ c := by omega
 clear h hR hx hps hlen hfz hcap hb
 obtain ⟨l, t, i⟩ := x
 simp only at z0 z1 z2
 unfold P3.val
 generalize qs.length = n at *
 go_enter Tryz.func223, Tryz.ntmps223
 go_wp2_with fail
 go_ret
 rw [H.out.2.1]
 have M := H.out.1
 unfold LineIn at M
 rw [H.out.2.1] at M
 exact ⟨rfl, (Sep.allocN (Sep.popped (by have h1 := H.out.2.2; have h2 := congrArg List.length H.out.2.1; simp at h2; omega) M (Below.refl _ _)) _ _).tail⟩
theorem field_place (l t i : Int) (w : World) : Sem.run Tryz.prog (Instr.field 152 (.agg #[.int .i64 l, .int .i64 t, .int .i64 i]) 2) w = .ok (.int .i64 i) w := by kernel_rfl
theorem pop_split {ps : List P3} (hh : HeapL ps) (hne : 0 < ps.length) : ∃ qs, swapL ps 0 (ps.length - 1) = qs ++ [at3 ps 0] ∧ (at3 ps 0 :: qs).Perm ps ∧ HeapDn qs 0 ∧ qs.length + 1 = ps.length := by
 rcases List.eq_nil_or_concat ps with rfl | ⟨qs, y, rfl⟩
 ·simp at hne
 ·simp only [List.concat_eq_append] at hh hne ⊢
  rw [List.length_append, List.length_singleton, Nat.add_sub_cancel]
  rcases Nat.eq_zero_or_pos qs.length with h0 | h0
  ·obtain rfl := List.eq_nil_of_length_eq_zero h0
   exact ⟨[], swapL_self (by simp), List.Perm.refl _, ⟨fun k h1 h2 => by simp at h2, fun h1 => by omega⟩, rfl⟩
  ·refine ⟨qs.set 0 y, ?_, ?_, HeapL.popped hh h0, by simp⟩
   ·rw [swap_last h0, at3_app h0]
   ·rw [at3_app h0]; exact popped_perm h0
theorem hpop_any (ps : List P3) (lb : Nat) (A : Option Addr) (c : Nat) (hne : 0 < ps.length) (hl : ps.length ≤ 1048576) (w : World) (hh : HeapL ps) (h : LineIn w lb A c ps) :
 Calls Tryz.prog 181 #[lineV lb] w fun r w' => r = .returned (.iface 152 (at3 ps 0).val) ∧ ∃ qs, (at3 ps 0 :: qs).Perm ps ∧ HeapL qs ∧ Sep (fps (lineL lb A c ps)) w w' (lineL lb A c qs) := by
 obtain ⟨q1, hs, hp, hd, hq1⟩ := pop_split hh hne
 generalize at3 ps 0 = y at *
 unfold lineV
 have qL : w.cell? ⟨lb, 0, none⟩ = some (.slice A ps.length c) := Sep.cell h 0 0 rfl
 have H := hide (⟨h, hs, hp, hd, hq1⟩ : _ ∧ _ ∧ _ ∧ _ ∧ _)
 clear h hs hp hd hh hq1
 go_enter Tryz.func181, Tryz.ntmps181
 go_wp2_with fail
 rw [inv_len _ lb A ps.length c _ qL]
 go_wp2_with fail
 go_call (len_any A ps.length c _) as r W2 ⟨rfl, rfl⟩
 go_wp2_with fail
 rw [inv_swap _ lb A ps.length c _ qL]
 go_wp2_with fail
 rw [show (ps.length : Int) - 1 = ((ps.length - 1 : Nat) : Int) from by omega]
 have hR : (rP ps.length A c ps).here w := Sep.rowAt H.out.1 1 rfl
 have hS := swap_any ps A c 0 (ps.length - 1) (by omega) (by omega) (by omega) w hR
 clear hR
 replace hS : Calls Tryz.prog 225 #[.slice A ps.length c, .int .i64 0, .int .i64 ((ps.length - 1 : Nat) : Int)] w _ := hS
 apply Calls.mono
 focus with_reducible exact hS
 clear hS qL
 rintro r W3 ⟨⟨v', rfl⟩, g3⟩
 have M := Sep.swapped H.out.1 g3
 clear g3
 obtain ⟨n, hn⟩ : ∃ n, n = ps.length - 1 := ⟨_, rfl⟩
 rw [H.out.2.1] at M
 have hD := hdown_any q1 (y) (q1 ++ [y]) lb A c n (by have := H.out.2.2.2.2; omega) (by have := H.out.2.2.2.2; simp; omega) _ ⟨q1, rfl, List.Perm.refl _, H.out.2.2.2.1⟩ (LineIn.of (rs := []) M)
 rw [← hn]
 have HN := hide hn
 clear hn
 unfold lineV at hD
 go_wp2_with fail
 apply Calls.mono
 focus with_reducible exact hD
 clear hD
 rintro r W4 ⟨⟨v4, rfl⟩, q2, hp2, hh2, M2⟩
 replace M2 := Sep.comp (ps := lineL lb A c (q1 ++ [y])) (rs := []) M M2
 have hP := pop_any q2 (y) lb A c (by have h1 := hp2.length_eq; have := H.out.2.2.2.2; omega) _ (LineIn.of (rs := []) M2)
 go_wp2_with fail
 apply Calls.mono
 focus with_reducible exact hP
 clear hP
 rintro r W5 ⟨rfl, M3⟩
 replace M3 := Sep.comp (ps := lineL lb A c (q2 ++ [y])) (rs := []) (by simpa using M2) M3
 go_wp2_with fail
 go_ret
 exact ⟨rfl, q2, (hp2.cons _).trans H.out.2.2.1, hh2, M3⟩
theorem next_any (ps : List P3) (lb : Nat) (A : Option Addr) (c : Nat) (hne : 0 < ps.length) (hl : ps.length ≤ 1048576) (w : World) (hh : HeapL ps) (h : LineIn w lb A c ps) :
 Calls Tryz.prog 145 #[.pointer (some ⟨lb, 0, none⟩)] w fun r w' => r = .returned (.int .i64 (at3 ps 0).i) ∧ ∃ qs, (at3 ps 0 :: qs).Perm ps ∧ HeapL qs ∧ Sep (fps (lineL lb A c ps)) w w' (lineL lb A c qs) := by
 have hP := hide (hpop_any ps lb A c hne hl w hh h)
 clear hh h
 generalize at3 ps 0 = y at *
 obtain ⟨l1, t1, i1⟩ := y
 unfold lineV P3.val at hP
 simp only at hP ⊢
 go_enter Tryz.func145, Tryz.ntmps145
 go_wp2_with fail
 apply Calls.mono
 focus with_reducible exact hP.out
 clear hP
 rintro r W5 ⟨rfl, qs, hp, hh, M3⟩
 have HH := hide (⟨hp, hh, M3⟩ : _ ∧ _ ∧ _)
 clear hp hh M3
 go_wp2_with fail
 rw [assert_place]
 go_wp2_with fail
 rw [field_place]
 go_wp2_with fail
 go_ret
 exact ⟨rfl, qs, HH.out.1, HH.out.2.1, HH.out.2.2⟩
set_option maxHeartbeats 2000000
set_option maxRecDepth 100000
theorem first_any (ps : List P3) (A : Option Addr) (c : Nat) (hl : ps.length ≤ 1048576) (w : World) (h : Row w A (pcells ps)) :
 Calls Tryz.prog 149 #[.slice A ps.length c] w fun r w' => r = .returned (.int .i64 ((ps.map P3.i).headD (-1))) ∧ w' = w := by
 cases ps with
 | nil =>
  clear h
  go_enter Tryz.func149, Tryz.ntmps149
  go_wp2_with fail
  go_ret
  exact ⟨rfl, rfl⟩
 | cons x rs =>
  obtain ⟨b, off, rfl, hb, z0, z1, z2⟩ := h.ps_at (k := 0) (by simp)
  simp only [Nat.zero_mul, Nat.add_zero, List.getElem_cons_zero] at z0 z1 z2
  obtain ⟨n, hn⟩ : ∃ n, n = (x :: rs).length := ⟨_, rfl⟩
  have hn0 : (0 : Int) < (n : Int) := by rw [hn]; simp
  have hn1 : ¬ (n : Int) = 0 := by omega
  rw [← hn]
  simp only [List.map_cons, List.headD_cons]
  clear h hn hl
  obtain ⟨l, t, i⟩ := x
  simp only at z0 z1 z2 ⊢
  go_enter Tryz.func149, Tryz.ntmps149
  go_wp2_with fail
  go_ret
  exact ⟨rfl, rfl⟩
theorem waitsOn_any (s l o wt on v t wt2 on2 : Int) (w : World) :
 Calls Tryz.prog 152 #[.agg #[.int .i64 s, .int .i64 l, .int .i64 o, .int .i64 wt, .int .i64 on, .int .i64 v, .int .i64 t], .int .i64 wt2, .int .i64 on2] w fun r w' => r = .returned (.bool (s == 3 && (wt == wt2 && on == on2))) ∧ Below w.heap.size w w' := by
 by_cases h1 : s = 3
 ·subst h1
  by_cases h2 : wt = wt2
  ·subst h2
   rw [show ((3 : Int) == 3 && (wt == wt && on == on2)) = (on == on2) by simp]
   go_enter Tryz.func152, Tryz.ntmps152
   go_wp2_with fail
   go_ret
   exact ⟨rfl, by go_grown⟩
  ·rw [show ((3 : Int) == 3 && (wt == wt2 && on == on2)) = false by simp [h2]]
   go_enter Tryz.func152, Tryz.ntmps152
   go_wp2_with fail
   go_ret
   exact ⟨rfl, by go_grown⟩
 ·rw [show (s == 3 && (wt == wt2 && on == on2)) = false by simp [h1]]
  go_enter Tryz.func152, Tryz.ntmps152
  go_wp2_with fail
  go_ret
  exact ⟨rfl, by go_grown⟩
theorem lineL_new (w : World) : Sep [] w ((w.alloc (.cells #[] 152)).alloc (.cells #[.slice (some ⟨w.heap.size, 0, none⟩) 0 0] 149)) (lineL (w.heap.size + 1) (some ⟨w.heap.size, 0, none⟩) 0 []) := by
 have M := Sep.enter2 (o1 := #[]) (o2 := #[.slice (some ⟨w.heap.size, 0, none⟩) 0 0]) (t1 := 152) (t2 := 149) w
 have hB := M.blk 1 rfl
 have hO : World.ownsRow ((w.alloc (.cells #[] 152)).alloc (.cells #[.slice (some ⟨w.heap.size, 0, none⟩) 0 0] 149)) 0 152 3 (.slice (some ⟨w.heap.size, 0, none⟩) 0 0) 0 (pcells []) := ⟨by simp [pcells], .inr ⟨w.heap.size, 0, #[], rfl, Nat.zero_le _, hB, Nat.le_refl _, Nat.zero_le _, by simp, by simp [pcells]⟩⟩
 have k : Sep (fps [.blk w.heap.size 152 #[]]) _ _ [rP 0 (some ⟨w.heap.size, 0, none⟩) 0 []] := sepOneB (fun _ h => h) (World.grownBy.refl _ _) hO
 exact (Sep.comp (ps := [.blk w.heap.size 152 #[]]) (rs := [.blk (w.heap.size + 1) 149 #[.slice (some ⟨w.heap.size, 0, none⟩) 0 0]]) (M.front 1 rfl) k).front 1 rfl
def readyPl (ts : List T7) (j : Int) : P3 := ⟨(taskAt ts j).l, (taskAt ts j).t, j⟩
def waitPl (ts : List T7) (j : Int) : P3 := ⟨0, (taskAt ts j).t, j⟩
theorem ready_line {ts : List T7} {ps : List P3} (hh : HeapL ps) (hp : ps.Perm ((pick (readyQ ts) ts.length).map fun k => readyPl ts (Int.ofNat k))) : (ps.map P3.i).headD (-1) = (readyM ts).headD (-1) :=
 line_first (readyQ ts) (readyP ts) (readyPl ts) (fun _ => rfl) (fun k j _ => rfl) ts.length ps hh hp
theorem wait_eq {ts : List T7} {wt on : Int} {out : List P3} (hs : out.Pairwise leP) (hp : out.Perm ((pick (waitQ ts wt on) ts.length).map fun k => waitPl ts (Int.ofNat k))) : out.map P3.i = waitersM ts wt on := by
 refine line_eq (waitQ ts wt on) (waitP ts) (waitPl ts) (fun _ => rfl) (fun k j hj => ?_) ts.length out hs hp
 have hk : taskAt ts (k : Int) = ts.getD k default := by simp only [taskAt, Int.toNat_natCast]
 simp only [waitP, waitPl, aheadP, if_true, hk]
 split
 ·rename_i h
  rw [h]
  simp; omega
 ·rfl
theorem readyLine_p (ts : List T7) (xb : Nat) (A0 : Option Addr) (c0 : Nat) (w : World) (hlen : ts.length ≤ 1048576) (hx : w.cell? ⟨xb, 0, none⟩ = some (.slice A0 ts.length c0)) (h : Row w A0 (tcells ts)) :
 Calls Tryz.prog 81 #[.pointer (some ⟨xb, 0, none⟩)] w fun r w' => ∃ (lb : Nat) (A : Option Addr) (c : Nat) (ps : List P3), r = .returned (.pointer (some ⟨lb, 0, none⟩)) ∧ ps.length ≤ ts.length ∧ HeapL ps ∧ ps.Perm ((pick (readyQ ts) ts.length).map fun k => readyPl ts (Int.ofNat k)) ∧ Sep [] w w' (lineL lb A c ps) := by
 have hxb : xb < w.heap.size := World.block_lt_of_cell? w _ hx
 have H := hide (⟨h, hx⟩ : _ ∧ _)
 clear h
 go_enter Tryz.func81, Tryz.ntmps81
 go_wp2_with fail
 have M := lineL_new w
 generalize (w.alloc (.cells #[] 152)).alloc (.cells #[.slice (some ⟨w.heap.size, 0, none⟩) 0 0] 149) = W1 at M ⊢
 have hx1 : W1.cell? ⟨xb, 0, none⟩ = some (.slice A0 ts.length c0) := (M.below.cell (p := ⟨xb, 0, none⟩) hxb).trans hx
 clear hx
 obtain ⟨lb, hlb⟩ : ∃ lb, lb = w.heap.size + 1 := ⟨_, rfl⟩
 rw [← hlb] at M ⊢
 clear hlb
 go_wp2_with fail
 clear hx1
 go_loopw [13] (fun i wr => ∃ (m : Nat) (A : Option Addr) (c : Nat) (ps : List P3), i = .int .i64 m ∧ m ≤ ts.length ∧ Hid (ps.length ≤ m ∧ HeapL ps ∧ ps.Perm ((pick (readyQ ts) m).map fun k => readyPl ts (Int.ofNat k))) ∧ Sep [] w wr (lineL lb A c ps)) (fun i _ => (ts.length - (intOf i).toNat : Nat))
 case atStart => exact ⟨0, _, _, [], rfl, Nat.zero_le _, hide ⟨Nat.le_refl _, HeapL.nil, List.Perm.nil⟩, M⟩
 case round =>
  clear M
  obtain ⟨m, A, c, ps, rfl, hm, HP, M⟩ := hrel
  by_cases hmz : m < ts.length
  ·have hmi : (m : Int) < (ts.length : Int) := by omega
   have hm0 : (0 : Int) ≤ (m : Int) := by omega
   obtain ⟨b, off, s, l, o, wt, on, v, t, hA0, _, he, hb, y0, y1, y2, y3, y4, y5, y6⟩ := (H.out.1.below M.below).ts_at hmz
   subst hA0
   have htk : ts.getD m default = ⟨s, l, o, wt, on, v, t⟩ := getD_of he
   have HT := hide htk
   clear htk he
   by_cases h1 : s = 1
   ·have hQ : Hid (readyQ ts m = true) := hide (by unfold readyQ; rw [HT.out]; simp [h1])
    subst h1
    go_wp2_with fail
    replace M := (Sep.allocN M 45 #[.int .i64 1, .int .i64 l, .int .i64 o, .int .i64 wt, .int .i64 on, .int .i64 v, .int .i64 t]).tail
    generalize wr.alloc (.cells #[.int .i64 1, .int .i64 l, .int .i64 o, .int .i64 wt, .int .i64 on, .int .i64 v, .int .i64 t] 45) = W9 at M ⊢
    go_call (hpush_any ps lb A c l t m (by have := HP.out.1; omega) _ HP.out.2.1 (LineIn.of (rs := []) M)) as r W2 ⟨⟨v', rfl⟩, A', c', qs, hp', hh', M2⟩
    replace M := Sep.comp (ps := lineL lb A c ps) (rs := []) (by simpa using M) M2
    clear M2
    have HQ := hide (⟨hp', hh'⟩ : _ ∧ _)
    clear hp' hh'
    go_wp2_with fail
    go_roundw
    ·refine ⟨m + 1, A', c', qs, by go_num, by omega, hide ⟨?_, HQ.out.2, ?_⟩, M⟩
     ·have h1 := HQ.out.1.length_eq
      have h2 := HP.out.1
      simp at h1; omega
     ·refine HQ.out.1.trans ?_
      have h3 : readyQ ts m = true := by exact hQ.out
      rw [show pick (readyQ ts) (m + 1) = pick (readyQ ts) m ++ [m] by simp [pick, h3], List.map_append]
      refine List.Perm.append HP.out.2.2 ?_
      simp only [List.map_cons, List.map_nil, readyPl, taskAt, Int.ofNat_eq_natCast, Int.toNat_natCast, HT.out]
      exact List.Perm.refl _
    ·simp [intOf]; omega
   ·have hQ : Hid (readyQ ts m = false) := hide (by unfold readyQ; rw [HT.out]; simp [h1])
    go_wp2_with fail
    replace M := (Sep.allocN M 45 #[.int .i64 s, .int .i64 l, .int .i64 o, .int .i64 wt, .int .i64 on, .int .i64 v, .int .i64 t]).tail
    generalize wr.alloc (.cells #[.int .i64 s, .int .i64 l, .int .i64 o, .int .i64 wt, .int .i64 on, .int .i64 v, .int .i64 t] 45) = W9 at M ⊢
    go_roundw
    ·refine ⟨m + 1, A, c, ps, by go_num, by omega, hide ⟨by have := HP.out.1; omega, HP.out.2.1, ?_⟩, M⟩
     have h3 : readyQ ts m = false := by exact hQ.out
     rw [show pick (readyQ ts) (m + 1) = pick (readyQ ts) m by simp [pick, h3]]
     exact HP.out.2.2
    ·simp [intOf]; omega
  ·have hme : m = ts.length := by omega
   have hmi : ¬ (m : Int) < (ts.length : Int) := by omega
   subst hme
   go_wp2_with fail
   go_ret
   exact ⟨lb, rfl, A, c, ps, HP.out.1, HP.out.2.1, HP.out.2.2, M⟩
theorem waitersOn_p (ts : List T7) (xb : Nat) (A0 : Option Addr) (c0 : Nat) (wk on2 : Int) (w : World) (hlen : ts.length ≤ 1048576) (hx : w.cell? ⟨xb, 0, none⟩ = some (.slice A0 ts.length c0)) (h : Row w A0 (tcells ts)) :
 Calls Tryz.prog 94 #[.pointer (some ⟨xb, 0, none⟩), .int .i64 wk, .int .i64 on2] w fun r w' => ∃ (lb : Nat) (A : Option Addr) (c : Nat) (ps : List P3), r = .returned (.pointer (some ⟨lb, 0, none⟩)) ∧ ps.length ≤ ts.length ∧ HeapL ps ∧ ps.Perm ((pick (waitQ ts wk on2) ts.length).map fun k => waitPl ts (Int.ofNat k)) ∧ Sep [] w w' (lineL lb A c ps) := by
 have hxb : xb < w.heap.size := World.block_lt_of_cell? w _ hx
 have H := hide (⟨h, hx⟩ : _ ∧ _)
 clear h
 go_enter Tryz.func94, Tryz.ntmps94
 go_wp2_with fail
 have M := lineL_new w
 generalize (w.alloc (.cells #[] 152)).alloc (.cells #[.slice (some ⟨w.heap.size, 0, none⟩) 0 0] 149) = W1 at M ⊢
 have hx1 : W1.cell? ⟨xb, 0, none⟩ = some (.slice A0 ts.length c0) := (M.below.cell (p := ⟨xb, 0, none⟩) hxb).trans hx
 clear hx
 obtain ⟨lb, hlb⟩ : ∃ lb, lb = w.heap.size + 1 := ⟨_, rfl⟩
 rw [← hlb] at M ⊢
 clear hlb
 go_wp2_with fail
 clear hx1
 go_loopw [17] (fun i wr => ∃ (m : Nat) (A : Option Addr) (c : Nat) (ps : List P3), i = .int .i64 m ∧ m ≤ ts.length ∧ Hid (ps.length ≤ m ∧ HeapL ps ∧ ps.Perm ((pick (waitQ ts wk on2) m).map fun k => waitPl ts (Int.ofNat k))) ∧ Sep [] w wr (lineL lb A c ps)) (fun i _ => (ts.length - (intOf i).toNat : Nat))
 case atStart => exact ⟨0, _, _, [], rfl, Nat.zero_le _, hide ⟨Nat.le_refl _, HeapL.nil, List.Perm.nil⟩, M⟩
 case round =>
  clear M
  obtain ⟨m, A, c, ps, rfl, hm, HP, M⟩ := hrel
  by_cases hmz : m < ts.length
  ·have hmi : (m : Int) < (ts.length : Int) := by omega
   have hm0 : (0 : Int) ≤ (m : Int) := by omega
   obtain ⟨b, off, s, l, o, wt, on, v, t, hA0, _, he, hb, y0, y1, y2, y3, y4, y5, y6⟩ := (H.out.1.below M.below).ts_at hmz
   subst hA0
   have htk : ts.getD m default = ⟨s, l, o, wt, on, v, t⟩ := getD_of he
   have HT := hide htk
   clear htk he
   go_wp2_with fail
   have kT := Blk.new wr 45 #[.int .i64 s, .int .i64 l, .int .i64 o, .int .i64 wt, .int .i64 on, .int .i64 v, .int .i64 t]
   replace M := (Sep.allocN M 45 #[.int .i64 s, .int .i64 l, .int .i64 o, .int .i64 wt, .int .i64 on, .int .i64 v, .int .i64 t]).tail
   generalize wr.alloc (.cells #[.int .i64 s, .int .i64 l, .int .i64 o, .int .i64 wt, .int .i64 on, .int .i64 v, .int .i64 t] 45) = W9 at kT M ⊢
   have q6 : W9.cell? ⟨wr.heap.size, 6, none⟩ = some (.int .i64 t) := kT.cell 6
   have tT := kT.lt
   have q0 : W9.cell? ⟨wr.heap.size, 0, none⟩ = some (.int .i64 s) := kT.cell 0
   have q1 : W9.cell? ⟨wr.heap.size, 1, none⟩ = some (.int .i64 l) := kT.cell 1
   have q2 : W9.cell? ⟨wr.heap.size, 2, none⟩ = some (.int .i64 o) := kT.cell 2
   have q3 : W9.cell? ⟨wr.heap.size, 3, none⟩ = some (.int .i64 wt) := kT.cell 3
   have q4 : W9.cell? ⟨wr.heap.size, 4, none⟩ = some (.int .i64 on) := kT.cell 4
   have q5 : W9.cell? ⟨wr.heap.size, 5, none⟩ = some (.int .i64 v) := kT.cell 5
   go_wp2_with fail
   go_call (waitsOn_any s l o wt on v t wk on2 _) as r W8 ⟨rfl, g1⟩
   replace M := M.call g1
   replace kT := kT.below g1 kT.lt
   clear q0 q1 q2 q3 q4 q5 q6 tT g1
   have q6 : W8.cell? ⟨wr.heap.size, 6, none⟩ = some (.int .i64 t) := kT.cell 6
   have hQ0 : waitQ ts wk on2 m = (s == 3 && (wt == wk && on == on2)) := by unfold waitQ; rw [HT.out]
   obtain ⟨bb, hbb⟩ : ∃ bb, bb = (s == 3 && (wt == wk && on == on2)) := ⟨_, rfl⟩
   rw [← hbb] at hQ0 ⊢
   have hQ := hide hQ0
   clear hQ0 hbb kT
   cases bb
   ·clear q6
    go_wp2_with fail
    go_roundw
    ·refine ⟨m + 1, A, c, ps, by go_num, by omega, hide ⟨by have := HP.out.1; omega, HP.out.2.1, ?_⟩, M⟩
     have h3 : waitQ ts wk on2 m = false := by exact hQ.out
     rw [show pick (waitQ ts wk on2) (m + 1) = pick (waitQ ts wk on2) m by simp [pick, h3]]
     exact HP.out.2.2
    ·simp [intOf]; omega
   ·go_wp2_with fail
    go_call (hpush_any ps lb A c 0 t m (by have := HP.out.1; omega) _ HP.out.2.1 (LineIn.of (rs := []) M)) as r W2 ⟨⟨v', rfl⟩, A', c', qs, hp', hh', M2⟩
    replace M := Sep.comp (ps := lineL lb A c ps) (rs := []) (by simpa using M) M2
    clear M2
    have HQ := hide (⟨hp', hh'⟩ : _ ∧ _)
    clear hp' hh'
    go_wp2_with fail
    go_roundw
    ·refine ⟨m + 1, A', c', qs, by go_num, by omega, hide ⟨?_, HQ.out.2, ?_⟩, M⟩
     ·have h1 := HQ.out.1.length_eq
      have h2 := HP.out.1
      simp at h1; omega
     ·refine HQ.out.1.trans ?_
      have h3 : waitQ ts wk on2 m = true := by exact hQ.out
      rw [show pick (waitQ ts wk on2) (m + 1) = pick (waitQ ts wk on2) m ++ [m] by simp [pick, h3], List.map_append]
      refine List.Perm.append HP.out.2.2 ?_
      simp only [List.map_cons, List.map_nil, waitPl, taskAt, Int.ofNat_eq_natCast, Int.toNat_natCast, HT.out]
      exact List.Perm.refl _
    ·simp [intOf]; omega
  ·have hme : m = ts.length := by omega
   have hmi : ¬ (m : Int) < (ts.length : Int) := by omega
   subst hme
   go_wp2_with fail
   go_ret
   exact ⟨lb, rfl, A, c, ps, HP.out.1, HP.out.2.1, HP.out.2.2, M⟩
attribute [local go_sem] Oper.semAt_some
theorem pick_mem {q : Nat → Bool} {n k : Nat} (h : k ∈ pick q n) : k < n ∧ q k = true := by
 induction n with
 | zero => simp [pick] at h
 | succ n ih =>
  simp only [pick] at h
  split at h
  ·rename_i hq
   rcases List.mem_append.1 h with h | h
   ·have := ih h; exact ⟨by omega, this.2⟩
   ·simp at h; subst h; exact ⟨by omega, hq⟩
  ·have := ih h; exact ⟨by omega, this.2⟩
theorem waitersM_mem {ts : List T7} {wt on j : Int} (h : j ∈ waitersM ts wt on) : ∃ (k : Nat) (x : T7), j = k ∧ k < ts.length ∧ ts[k]? = some x ∧ x.s = 3 ∧ x.wt = wt ∧ x.on = on := by
 unfold waitersM at h
 rw [(lineM_perm _ _ _).mem_iff] at h
 obtain ⟨k, hk, rfl⟩ := List.mem_map.1 h
 obtain ⟨h1, h2⟩ := pick_mem hk
 refine ⟨k, ts[k], rfl, h1, List.getElem?_eq_getElem h1, ?_⟩
 have e : ts.getD k default = ts[k] := by rw [List.getD_eq_getElem?_getD, List.getElem?_eq_getElem h1]; rfl
 simp only [waitQ, e, Bool.and_eq_true, beq_iff_eq] at h2
 exact h2
theorem LineIn.above {B : Nat} {w W : World} {lb : Nat} {A : Option Addr} {c : Nat} {ps : List P3} (h : LineIn w lb A c ps) (hB : ∀ g ∈ fps (lineL lb A c ps), B ≤ g) (k : Above B w W) : LineIn W lb A c ps :=
 ⟨rfl, rfl, rfl, Nat.le_refl _, fun _ _ _ => rfl, fun r hr => (h.here r hr).keep fun g hg => k.same g (hB g (mem_fps.2 ⟨r, hr, hg⟩)) ((h.here r hr).lt hg), fun r hr g hg => .inl (mem_fps.2 ⟨r, hr, hg⟩), h.apart⟩
theorem Sep.belowB {S : List Nat} {w W : World} {rs : List Res} {B : Nat} (h : Sep S w W rs) (hS : ∀ g ∈ S, B ≤ g) (hB : B ≤ w.heap.size) : Below B w W :=
 ⟨h.os, h.tape, h.output, h.size, fun b hb => h.block b (Nat.lt_of_lt_of_le hb hB) (fun hm => by have := hS b hm; omega)⟩
set_option maxHeartbeats 400000
set_option maxRecDepth 100000
theorem turn_ok (A0 A1 A2 : Option Addr) (n0 c0 n1 c1 n2 c2 : Nat) (tn : Int) (st : Bool) (g : Nat) (w : World) (t0 : 0 ≤ tn) (t1 : tn < 1000000) (hg : Blk w g 35 #[.slice A0 n0 c0, .slice A1 n1 c1, .slice A2 n2 c2, .int .i64 tn, .bool st]) :
 Calls Tryz.prog 148 #[.pointer (some ⟨g, 0, none⟩)] w fun r w' => r = .returned (.int .i64 tn) ∧ w' = w.setCell ⟨g, 3, none⟩ (.int .i64 (tn + 1)) := by
 have q3 : w.cell? ⟨g, 3, none⟩ = some (.int .i64 tn) := hg.cell 3
 have f3 : w.frozen? ⟨g, 3, none⟩ = false := hg.frozen 3
 clear hg
 go_enter Tryz.func148, Tryz.ntmps148
 go_wp2_with fail
 rw [show decide ((1000000 : Int) ≤ tn) = false from decide_eq_false (by omega)]
 go_call (giveUp_no 4 _) as r W ⟨rfl, rfl⟩
 go_wp2
 go_ret
 exact ⟨rfl, rfl⟩
theorem turn_full (A0 A1 A2 : Option Addr) (n0 c0 n1 c1 n2 c2 : Nat) (tn : Int) (st : Bool) (g : Nat) (w : World) (t1 : ¬ tn < 1000000) (hg : Blk w g 35 #[.slice A0 n0 c0, .slice A1 n1 c1, .slice A2 n2 c2, .int .i64 tn, .bool st]) :
 Calls Tryz.prog 148 #[.pointer (some ⟨g, 0, none⟩)] w fun r w' => r = .panicked [{ v := .iface 137 (.int .i64 4), recovered := false }] ∧ w' = w := by
 have q3 : w.cell? ⟨g, 3, none⟩ = some (.int .i64 tn) := hg.cell 3
 clear hg
 go_enter Tryz.func148, Tryz.ntmps148
 go_wp2_with fail
 go_call (giveUp_yes 4 _) as r W ⟨rfl, rfl⟩
 go_wp2_with fail
 exact ⟨rfl, rfl, rfl⟩
theorem okWith_any (o : Int) (w : World) :
 Calls Tryz.prog 136 #[.int .i64 o] w fun r w' => r = .returned (.agg #[.int .i64 1, .int .i64 o]) ∧ Below w.heap.size w w' := by
 go_enter Tryz.func136, Tryz.ntmps136
 go_wp2
 exact bodyPost_ret (v := .agg #[.int .i64 1, .int .i64 o]) (by simp [results, Tryz.results136, go_sem]) rfl ⟨rfl, by go_grown⟩
theorem runM_low (ts : List T7) (wk i : Int) : runM ts wk i = -1 ∨ i ≤ runM ts wk i := by
 induction ts generalizing i with
 | nil => exact .inl rfl
 | cons t r ih =>
  simp only [runM]
  split
  ·exact .inr (Int.le_refl _)
  ·exact (ih (i + 1)).imp id (fun h => by omega)
theorem runM_none {ts : List T7} {wk : Int} (h : runM ts wk 0 < 0) : runM ts wk 0 = -1 :=
 (runM_low ts wk 0).elim id (fun h1 => by omega)
theorem fit_parts {a b c d e : Int} {ts : List T7} {tn : Int} {k : Nat} {x : T7} (h : fitB a b c d e ts tn k x = true) : planB a b c d e = true ∧ btw x.s 1 5 = true ∧ btw x.l 0 (c - 1) = true ∧ ownB a x.s x.o = true ∧ waitB b d e x.s x.wt x.on = true ∧ btw x.v 0 9999 = true ∧ btw x.t 0 1000000 = true ∧ x.t < tn ∧ soloTo ts k x.s x.o = true ∧ waitsOk ts.length k x.wt x.on = true := by
 simp only [fitB, taskB, Bool.and_eq_true, decide_eq_true_eq] at h
 obtain ⟨⟨h1, h2, h3, h4, h5, h6, h7⟩, h8, h9, h10⟩ := h
 exact ⟨h1, h2, h3, h4, h5, h6, h7, h8, h9, h10⟩
theorem fit_mk {a b c d e : Int} {ts : List T7} {tn : Int} {k : Nat} {x : T7} (h1 : planB a b c d e = true) (h2 : btw x.s 1 5 = true) (h3 : btw x.l 0 (c - 1) = true) (h4 : ownB a x.s x.o = true) (h5 : waitB b d e x.s x.wt x.on = true) (h6 : btw x.v 0 9999 = true) (h7 : btw x.t 0 1000000 = true) (h8 : x.t < tn) (h9 : soloTo ts k x.s x.o = true) (h10 : waitsOk ts.length k x.wt x.on = true) : fitB a b c d e ts tn k x = true := by
 simp only [fitB, taskB, Bool.and_eq_true, decide_eq_true_eq]
 exact ⟨⟨h1, h2, h3, h4, h5, h6, h7⟩, h8, h9, h10⟩
theorem wait_run {b d e s wt on : Int} (h : waitB b d e s wt on = true) (hs : s ≠ 3) : wt = 0 ∧ on = 0 := by
 simp only [waitB, if_neg hs, Bool.and_eq_true, beq_iff_eq] at h
 exact h
theorem wait_no {b d e s : Int} (hs : s ≠ 3) : waitB b d e s 0 0 = true := by simp [waitB, hs]
theorem solo_no {ts : List T7} {k : Nat} {s o : Int} (hs : s ≠ 2) : soloTo ts k s o = true := by simp [soloTo, hs]
theorem waits_no {n k : Nat} {on : Int} : waitsOk n k 0 on = true := by simp [waitsOk]
theorem own_no {a s : Int} (hs : s ≠ 2) : ownB a s (-1) = true := by simp [ownB, hs]
theorem pool_fit {a b c d e : Int} {ts : List T7} {ks : List Int} {fs : List F2} {tn : Int} {k : Nat} {x : T7} (h : poolB a b c d e ts ks fs tn = true) (hx : ts[k]? = some x) : fitB a b c d e ts tn k x = true := (tasksB_iff ..).1 (poolB_parts h).2.2.2 k x hx
theorem runM_nobody {ts : List T7} {wk i : Int} (hi : 0 ≤ i) (h : runM ts wk i = -1) : ∀ u ∈ ts, (u.s == 2 && u.o == wk) = false := by
 induction ts generalizing i with
 | nil => simp
 | cons t r ih =>
  simp only [runM] at h
  split at h
  ·omega
  ·rename_i hn
   intro u hu
   rcases List.mem_cons.1 hu with rfl | hu
   ·simpa using hn
   ·exact ih (by omega) h u hu
theorem runM_runs {ts : List T7} {wk i : Int} {k : Nat} (hi : 0 ≤ i) (h : runM ts wk i = i + k) : ∃ x, ts[k]? = some x ∧ x.s = 2 ∧ x.o = wk := by
 induction ts generalizing i k with
 | nil => simp only [runM] at h; omega
 | cons t r ih =>
  simp only [runM] at h
  split at h
  ·rename_i hm
   obtain rfl : k = 0 := by omega
   exact ⟨t, rfl, hm.1, hm.2⟩
  ·cases k with
   | zero => rcases runM_low r wk (i + 1) with h1 | h1 <;> omega
   | succ k =>
    obtain ⟨x, hx, h1⟩ := ih (i := i + 1) (k := k) (by omega) (by omega)
    exact ⟨x, by simpa using hx, h1⟩
theorem takeP_right {a b c d e : Int} {ts : List T7} {ks : List Int} {fs : List F2} {tn : Int} {k : Nat} {s l o wt on v t wk : Int} (h : poolB a b c d e ts ks fs tn = true) (hx : ts[k]? = some ⟨s, l, o, wt, on, v, t⟩) (hs : s = 1) (hw : btw wk 0 (a - 1) = true) (hr : runM ts wk 0 = -1) : poolB a b c d e (ts.set k ⟨2, l, wk, wt, on, v, t⟩) ks fs tn = true := by
 obtain ⟨h1, h2, h3, h4, h5, h6, h7, h8, h9, h10⟩ := fit_parts (pool_fit h hx)
 obtain ⟨hp, hb, _, hT⟩ := poolB_parts h
 simp only at h2 h3 h4 h5 h6 h7 h8 h9 h10
 obtain ⟨rfl, rfl⟩ := wait_run h5 (by omega)
 have hno := runM_nobody (Int.le_refl 0) hr
 refine poolB_turn h (by simp) hb ?_
 rw [tasksB_iff] at hT ⊢
 intro j u hj
 by_cases e1 : k = j
 ·subst e1
  have hl : k < ts.length := by
   rcases Nat.lt_or_ge k ts.length with h | h
   ·exact h
   ·rw [List.getElem?_eq_none h] at hx; cases hx
  rw [List.getElem?_set_self hl] at hj
  injection hj with hj
  subst hj
  refine fit_mk hp (by simp [btw]) h3 (by simpa [ownB] using hw) (wait_no (by simp)) h6 h7 h8 ?_ waits_no
  simp only [soloTo, Bool.or_eq_true, List.all_eq_true]
  refine .inr fun u hu => ?_
  rw [List.take_set_of_le (Nat.le_refl _)] at hu
  have := hno u (List.mem_of_mem_take hu)
  show (!(u.s == 2 && u.o == wk)) = true
  rw [this]
  rfl
 ·rw [List.getElem?_set_ne e1] at hj
  obtain ⟨g1, g2, g3, g4, g5, g6, g7, g8, g9, g10⟩ := fit_parts (hT j u hj)
  refine fit_mk hp g2 g3 g4 g5 g6 g7 g8 ?_ (by rw [List.length_set]; exact g10)
  simp only [soloTo, Bool.or_eq_true, List.all_eq_true] at g9 ⊢
  rcases g9 with g9 | g9
  ·exact .inl g9
  ·by_cases hu2 : u.s = 2
   ·refine .inr fun z hz => ?_
    rw [List.take_set] at hz
    rcases List.mem_or_eq_of_mem_set hz with hz | rfl
    ·exact g9 z hz
    ·have := hno u (List.mem_of_getElem? hj)
     simp only [hu2, beq_self_eq_true, Bool.true_and, beq_eq_false_iff_ne] at this
     simp only [beq_self_eq_true, Bool.true_and, Bool.not_eq_true', beq_eq_false_iff_ne]
     exact fun h => this h.symm
   ·exact .inl (by simp [hu2])
theorem spawnP_right {a b c d e : Int} {ts : List T7} {ks : List Int} {fs : List F2} {tn lv : Int} (h : poolB a b c d e ts ks fs tn = true) (hl : btw lv 0 (c - 1) = true) (hb : (ts.length : Int) < b) (ht : tn < 1000000) : poolB a b c d e (ts ++ [⟨1, lv, -1, 0, 0, 0, tn⟩]) ks fs (tn + 1) = true := by
 obtain ⟨hp, hT, hlen, hTs⟩ := poolB_parts h
 have h2 := h
 simp only [poolB, Bool.and_eq_true, decide_eq_true_eq] at h2 ⊢
 refine ⟨h2.1, by simp [btw]; omega, ⟨by simp; omega, ?_⟩, h2.2.2.2⟩
 rw [tasksB_iff] at hTs ⊢
 intro k u hk
 rcases Nat.lt_or_ge k ts.length with h1 | h1
 ·rw [List.getElem?_append_left h1] at hk
  obtain ⟨g1, g2, g3, g4, g5, g6, g7, g8, g9, g10⟩ := fit_parts (hTs k u hk)
  refine fit_mk hp g2 g3 g4 g5 g6 g7 (by omega) ?_ ?_
  ·simp only [soloTo] at g9 ⊢
   rw [List.take_append_of_le_length (by omega)]
   exact g9
  ·simp only [waitsOk, Bool.or_eq_true, Bool.and_eq_true, decide_eq_true_eq, List.length_append, List.length_singleton] at g10 ⊢
   refine g10.imp id (fun hh => ⟨by omega, hh.2⟩)
 ·rw [List.getElem?_append_right h1] at hk
  have hk0 : k - ts.length = 0 := by
   rcases Nat.eq_zero_or_pos (k - ts.length) with h | h
   ·exact h
   ·rw [List.getElem?_eq_none (by simp; omega)] at hk; cases hk
  rw [hk0] at hk
  simp at hk
  subst hk
  exact fit_mk hp (by simp [btw]) hl (own_no (by simp)) (wait_no (by simp)) (by simp [btw]) (btw_t hT.1 hT.2) (by simp only; omega) (solo_no (by simp)) waits_no
end Go.Proofs.YtfkdfkoigojciaaGreatDoor
