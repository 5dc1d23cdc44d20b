/- The program's line behind a pointer: Pop, container/heap's Pop over it, next. The list of places no longer than a million. -/
import Derived.Test.YtgncjcnobojgbaaQFnLines51
import Derived.Test.YtgncjcnobojgbaaQFnLines44

namespace Go.Proofs.Ytgncjcnobojgbaa
open Go.RowKit
set_option linter.unusedVariables false

theorem rowLit3 (w : World) (t : TypeId) (v0 v1 v2 : Value) : Row (w.alloc (.cells #[v0, v1, v2] t)) (some ⟨w.heap.size, 0, none⟩) [v0, v1, v2] :=
  Row.of_own (World.ownsRow_lit (base := 0) (e := t) (size := 3) w #[v0, v1, v2] 1 (Nat.zero_le _) (by simp [maxLen]) (by simp))
theorem pcells_snoc (ps : List P3) (x : P3) : pcells ps ++ x.cs = pcells (ps ++ [x]) := by simp [pcells]
theorem info_parts3 : ∃ i : TypeInfo, Try.prog.info? 135 = some i ∧ i.zero = some (.agg #[.int .i64 0, .int .i64 0, .int .i64 0]) ∧ i.size = 3 ∧ i.bytes = 24 := by
  have h := infoPlace
  cases hi : Try.prog.info? 135 with
  | none => rw [hi] at h; cases h
  | some i =>
    rw [hi] at h
    simp only [Option.map_some, Option.some.injEq, Prod.mk.injEq] at h
    exact ⟨i, rfl, h.1, h.2.1, h.2.2⟩
theorem assert_place (v : Value) (w : World) : Sem.run Try.prog (Instr.typeAssert (.iface 135 v) 20 135 false) w = .ok v w := by kernel_rfl
/-- The row grows by a place, and the variable has it. -/
theorem Sep.pushed {S : List Nat} {w W W' : World} {lb : Nat} {A A' : Option Addr} {c c' n : Nat} {ps : List P3} {x : P3} (hn : n = ps.length) (M : Sep S w W (lineL lb A c ps)) (k : Sep (fps [rP ps.length A c ps]) W W' [rP (n + 1) A' c' (ps ++ [x])]) : Sep S w (W'.setCell ⟨lb, 0, none⟩ (.slice A' (n + 1) c')) (lineL lb A' c' (ps ++ [x])) := by
  subst hn
  have h := Sep.comp (ps := [rP ps.length A c ps]) (rs := [.blk lb 132 #[.slice A ps.length c]]) (M.front 1 rfl) k
  have h2 := (h.front 1 rfl).set 0 rfl 0 (.slice A' (ps.length + 1) c')
  have e : (ps ++ [x]).length = ps.length + 1 := by simp
  unfold lineL
  rw [e]
  exact h2

set_option maxRecDepth 100000 in
set_option maxHeartbeats 1000000 in
theorem push_any (ps : List P3) (lb : Nat) (A : Option Addr) (c : Nat) (l t i : Int) (hl : ps.length < 1048576) (w : World) (h : LineIn w lb A c ps) :
    Calls Try.prog 191 #[.pointer (some ⟨lb, 0, none⟩), .iface 135 (.agg #[.int .i64 l, .int .i64 t, .int .i64 i])] w fun r w' => (∃ v, r = .returned v) ∧ ∃ A' c', Sep (fps (lineL lb A c ps)) w w' (lineL lb A' c' (ps ++ [⟨l, t, i⟩])) := by
  obtain ⟨i0, hi, hz0, hz1, hz2⟩ := info_parts3
  have qL : w.cell? ⟨lb, 0, none⟩ = some (.slice A ps.length c) := Sep.cell h 0 0 rfl
  have fL : w.frozen? ⟨lb, 0, none⟩ = false := Sep.fz h 0 0 rfl
  have hta := fun w => assert_place (.agg #[.int .i64 l, .int .i64 t, .int .i64 i]) w
  have H := hide h
  clear h
  go_enter Try.func191, Try.ntmps191
  go_wp2_with fail
  refine wp_region_T (S := (fun w' => w'.cell? ⟨lb, 0, none⟩ = some (.slice A ps.length c))) (ks := [9]) (by kernel_rfl) qL (fun hHeld => ?_)
  refine wpAnyT_takeY (i := 0) (v := ?v0) rfl (by kernel_rfl) (by kernel_rfl) (by kernel_rfl) (by kernel_rfl) (fun _ _ _ h => h) (by rfl) ?hy0 (fun _ => hHeld) ?rest0
  case hy0 => (intro w; go_simp; all_goals with_reducible rfl)
  try simp only [Act.put, List.setIfInBounds_toArray, List.set_cons_zero, List.set_cons_succ]
  refine wpAnyT_takeY (i := 1) (v := ?v1) rfl (by kernel_rfl) (by kernel_rfl) (by kernel_rfl) (by kernel_rfl) (fun _ _ _ h => h) (by rfl) ?hy1 (fun _ => hHeld) ?rest1
  case hy1 => (intro w; go_simp; all_goals with_reducible rfl)
  try simp only [Act.put, List.setIfInBounds_toArray, List.set_cons_zero, List.set_cons_succ]
  refine wpAnyT_takeY (i := 2) (v := ?v2) rfl (by kernel_rfl) (by kernel_rfl) (by kernel_rfl) (by kernel_rfl) (fun _ _ _ h => h) (by rfl) ?hy2 (fun _ => hHeld) ?rest2
  case hy2 => (intro w; go_simp; all_goals with_reducible rfl)
  try simp only [Act.put, List.setIfInBounds_toArray, List.set_cons_zero, List.set_cons_succ]
  refine wpAnyT_takeL (i := 3) (v := ?v3) rfl (by kernel_rfl) (by kernel_rfl) (by kernel_rfl) (by kernel_rfl) (by kernel_rfl) (fun _ _ _ h => h) (by rfl) ?hy3 hHeld ?rest3
  case hy3 => (intro w hSw; (try dsimp only at hSw); go_split_ands; go_simp; all_goals with_reducible rfl)
  try simp only [Act.put, List.setIfInBounds_toArray, List.set_cons_zero, List.set_cons_succ]
  refine wpAnyT_takeY (i := 4) (v := ?v4) rfl (by kernel_rfl) (by kernel_rfl) (by kernel_rfl) (by kernel_rfl) (fun _ _ _ h => h) (by rfl) ?hy4 (fun _ => hHeld) ?rest4
  case hy4 => (intro w; go_simp; all_goals with_reducible rfl)
  try simp only [Act.put, List.setIfInBounds_toArray, List.set_cons_zero, List.set_cons_succ]
  refine wpAnyT_takeY (i := 5) (v := ?v5) rfl (by kernel_rfl) (by kernel_rfl) (by kernel_rfl) (by kernel_rfl) (fun _ _ _ h => h) (by rfl) ?hy5 (fun _ => hHeld) ?rest5
  case hy5 => (intro w; go_simp; all_goals with_reducible rfl)
  try simp only [Act.put, List.setIfInBounds_toArray, List.set_cons_zero, List.set_cons_succ]
  refine wpAnyT_callL (i := 6) rfl (by kernel_rfl) (fun K hK => ?_)
  go_simp
  refine hK.out _ _ ?_ (fun hHeld => ?_)
  · exact (Sep.cell (Sep.allocN H.out _ _) 1 0 rfl)
  clear hK K
  try simp only [Act.put, List.setIfInBounds_toArray, List.set_cons_zero, List.set_cons_succ]
  have M1 : Sep (fps (lineL lb A c ps)) w (w.alloc (.cells #[.int .i64 l, .int .i64 t, .int .i64 i] 135)).drew (.blk w.heap.size 135 #[.int .i64 l, .int .i64 t, .int .i64 i] :: lineL lb A c ps) := Sep.drew (Sep.allocN H.out 135 #[.int .i64 l, .int .i64 t, .int .i64 i])
  have hR1 : Row (w.alloc (.cells #[.int .i64 l, .int .i64 t, .int .i64 i] 135)).drew (some ⟨w.heap.size, 0, none⟩) [.int .i64 l, .int .i64 t, .int .i64 i] := rowLit3 w 135 _ _ _
  generalize (w.alloc (.cells #[.int .i64 l, .int .i64 t, .int .i64 i] 135)).drew = W1 at M1 hR1 hHeld ⊢
  have hO : W1.ownsRow 0 135 3 (.slice A ps.length c) ps.length (pcells ps) := Sep.rowAt M1 2 rfl
  refine wpAnyT_callL (i := 7) rfl (by kernel_rfl) (fun K hK => ?_)
  refine step_append_sep rfl (.tmp 7) (.tmp 10) 132 rfl 135 i0 (.agg #[.int .i64 0, .int .i64 0, .int .i64 0]) 3 24 Try.underlying132 hi hz0 hz1 hz2 rfl (by decide) A ps.length c (pcells ps) rfl hO ⟨w.heap.size, 0, none⟩ 1 1 [.int .i64 l, .int .i64 t, .int .i64 i] rfl rfl hR1 (by simp) (by simp [Value.oneCell']) (by unfold maxLen; omega) (by omega) ?_
  intro A' c' W2 k
  have k' : Sep (fps [rP ps.length A c ps]) W1 W2 [rP (ps.length + 1) A' c' (ps ++ [⟨l, t, i⟩])] := by unfold rP; rw [← pcells_snoc]; exact k
  have M2 := Sep.comp (ps := [rP ps.length A c ps]) (rs := [.blk lb 132 #[.slice A ps.length c]]) ((Sep.tail M1).front 1 rfl) k'
  have fL2 : W2.frozen? ⟨lb, 0, none⟩ = false := Sep.fz M2 1 0 rfl
  have tL2 := Sep.lt M2 1 rfl
  refine hK.out _ _ ?_ (fun hHeld => ?_)
  · exact Sep.cell M2 1 0 rfl
  clear hK K
  try simp only [Act.put, List.setIfInBounds_toArray, List.set_cons_zero, List.set_cons_succ]
  refine wpAnyT_takeY (i := 8) (v := ?v8) rfl (by kernel_rfl) (by kernel_rfl) (by kernel_rfl) (by kernel_rfl) (fun _ _ _ h => h) (by rfl) ?hy8 (fun _ => hHeld) ?rest8
  case hy8 => (intro w; go_simp; all_goals with_reducible rfl)
  try simp only [Act.put, List.setIfInBounds_toArray, List.set_cons_zero, List.set_cons_succ]
  refine wpAnyT_oneL (i := 9) rfl (by kernel_rfl) (by kernel_rfl) (fun K hK => ?_)
  go_simp
  refine hK.out _ _ ?_
  clear hK K
  try simp only [Act.put, List.setIfInBounds_toArray, List.set_cons_zero, List.set_cons_succ]
  refine wpAnyT_done (by kernel_rfl) ?_ _
  go_end0
  refine ⟨⟨_, rfl⟩, A', c', ?_⟩
  exact Sep.pushed rfl (Sep.tail M1) k'

set_option maxRecDepth 100000 in
set_option maxHeartbeats 4000000 in
theorem hpush_any (ps : List P3) (lb : Nat) (A : Option Addr) (c : Nat) (l t i : Int) (hl : ps.length < 1048576) (w : World) (hh : HeapL ps) (h : LineIn w lb A c ps) :
    Calls Try.prog 116 #[lineV lb, .iface 135 (.agg #[.int .i64 l, .int .i64 t, .int .i64 i])] w fun r w' => (∃ v, r = .returned v) ∧ ∃ A' c' qs, qs.Perm (ps ++ [⟨l, t, i⟩]) ∧ HeapL qs ∧ Sep (fps (lineL lb A c ps)) w w' (lineL lb A' c' qs) := by
  unfold lineV
  have H := hide (⟨h, hh⟩ : _ ∧ _)
  clear h hh
  go_enter Try.func116, Try.ntmps116
  go_wp2_with fail
  go_call (push_any ps lb A c l t i hl _ H.out.1) as r W1 ⟨⟨v, rfl⟩, A', c', M⟩
  have qL : W1.cell? ⟨lb, 0, none⟩ = some (.slice A' (ps ++ [(⟨l, t, i⟩ : P3)]).length c') := Sep.cell M 0 0 rfl
  obtain ⟨qs, hqs⟩ : ∃ qs, qs = ps ++ [(⟨l, t, i⟩ : P3)] := ⟨_, rfl⟩
  rw [← hqs] at M qL
  have HQ := hide (⟨hqs, show HeapUp qs ps.length from by rw [hqs]; exact H.out.2.push _, show qs.length = ps.length + 1 from by rw [hqs]; simp⟩ : _ ∧ _ ∧ _)
  have hql : qs.length ≤ 1048576 := by have := HQ.out.2.2; omega
  clear hqs
  go_wp2_with fail
  rw [inv_len _ lb A' qs.length c' _ qL]
  go_wp2_with fail
  go_call (len_any A' qs.length c' _) as r W2 ⟨rfl, rfl⟩
  go_wp2_with fail
  rw [show (qs.length : Int) - 1 = (ps.length : Int) from by have := HQ.out.2.2; omega]
  have hU := hup_any qs lb A' c' ps.length (by have := HQ.out.2.2; omega) hql _ HQ.out.2.1 (LineIn.of (rs := []) M)
  unfold lineV at hU
  apply Calls.mono
  focus with_reducible exact hU
  rintro r W3 ⟨⟨v', rfl⟩, qs', hn', hp', hh', M'⟩
  go_wp2_with fail
  go_end0
  refine ⟨⟨_, rfl⟩, A', c', qs', by rw [← HQ.out.1]; exact hp', hh', ?_⟩
  have := Sep.comp (ps := lineL lb A' c' qs) (rs := []) M M'
  exact this
end Go.Proofs.Ytgncjcnobojgbaa

namespace Go.Proofs.Ytgncjcnobojgbaa
open Go.RowKit
set_option linter.unusedVariables false

/-- The last place leaves the row. -/
theorem Sep.popped {S : List Nat} {w W W' : World} {lb g : Nat} {c n : Nat} {qs : List P3} {x : P3} (hn : n = qs.length) (M : Sep S w W (lineL lb (some ⟨g, 0, none⟩) c (qs ++ [x]))) (hb : Below W.heap.size W W') : Sep S w (W'.setCell ⟨lb, 0, none⟩ (.slice (some ⟨g, 0, none⟩) n c)) (lineL lb (some ⟨g, 0, none⟩) c qs) := by
  subst hn
  have M2 := M.call hb
  have h1 : W'.ownsRow 0 135 3 (.slice (some ⟨g, 0, none⟩) (qs ++ [x]).length c) (qs ++ [x]).length (pcells (qs ++ [x])) := M2.rowAt 1 rfl
  have h2 := Own.cut h1 (k := qs.length) (by simp)
  rw [pcells_take, List.take_left] at h2
  have k : Sep (fps [rP (qs ++ [x]).length (some ⟨g, 0, none⟩) c (qs ++ [x])]) W' W' [rP qs.length (some ⟨g, 0, none⟩) c qs] := sepOne (fun _ h => .inl h) (World.grownBy.refl _ _) h2
  have h3 := Sep.comp (ps := [rP (qs ++ [x]).length (some ⟨g, 0, none⟩) c (qs ++ [x])]) (rs := [.blk lb 132 #[.slice (some ⟨g, 0, none⟩) (qs ++ [x]).length c]]) (M2.front 1 rfl) k
  exact (h3.front 1 rfl).set 0 rfl 0 (.slice (some ⟨g, 0, none⟩) qs.length c)

set_option maxRecDepth 100000 in
set_option maxHeartbeats 1000000 in
theorem pop_any (qs : List P3) (x : P3) (lb : Nat) (A : Option Addr) (c : Nat) (hl : qs.length < 1048576) (w : World) (h : LineIn w lb A c (qs ++ [x])) :
    Calls Try.prog 190 #[.pointer (some ⟨lb, 0, none⟩)] w fun r w' => r = .returned (.iface 135 x.val) ∧ Sep (fps (lineL lb A c (qs ++ [x]))) w w' (lineL lb A c qs) := by
  obtain ⟨ps, hps⟩ : ∃ ps, ps = qs ++ [x] := ⟨_, rfl⟩
  rw [← hps] at h
  have hlen : ps.length = qs.length + 1 := by rw [hps]; simp
  have hR : (rP ps.length A c ps).here w := Sep.here h _ (by simp [lineL])
  obtain ⟨g, rfl, hgl, hfz⟩ := rP_form hR (by omega)
  obtain ⟨b, off, e, hb, z0, z1, z2⟩ := (Row.of_own hR).ps_at (k := qs.length) (by omega)
  injection e with e
  injection e with e1 e2
  subst e1 e2
  simp only [Nat.zero_add] at z0 z1 z2
  have hx : ps[qs.length] = x := by subst hps; simp
  rw [hx] at z0 z1 z2
  have qL : w.cell? ⟨lb, 0, none⟩ = some (.slice (some ⟨g, 0, none⟩) ps.length c) := Sep.cell h 0 0 rfl
  have fL : w.frozen? ⟨lb, 0, none⟩ = false := Sep.fz h 0 0 rfl
  have tL : lb < w.heap.size := Sep.lt h 0 rfl
  have ne : w.heap.size ≠ lb := by omega
  have ne2 : w.heap.size ≠ g := by omega
  have hcap : ps.length ≤ c := own_cap (show w.ownsRow 0 135 3 (.slice (some ⟨g, 0, none⟩) ps.length c) ps.length (pcells ps) from hR)
  have H := hide (⟨h, hps, hlen⟩ : _ ∧ _ ∧ _)
  rw [← hps]
  have hn : (ps.length : Int) - 1 = (qs.length : Int) := by omega
  have hn1 : (qs.length : Int) < (ps.length : Int) := by omega
  have hn0 : (0 : Int) ≤ (qs.length : Int) := by omega
  have hn2 : (qs.length : Int) ≤ (c : Int) := by omega
  have hn3 : qs.length ≤ c := by omega
  clear h hR hx hps hlen hfz hcap hb
  obtain ⟨l, t, i⟩ := x
  simp only at z0 z1 z2
  unfold P3.val
  generalize qs.length = n at *
  go_enter Try.func190, Try.ntmps190
  go_wp2_with fail
  go_ret
  rw [H.out.2.1]
  have M := H.out.1
  unfold LineIn at M
  rw [H.out.2.1] at M
  exact ⟨rfl, (Sep.allocN (Sep.popped (by have h1 := H.out.2.2; have h2 := congrArg List.length H.out.2.1; simp at h2; omega) M (Below.refl _ _)) _ _).tail⟩

theorem field_place (l t i : Int) (w : World) : Sem.run Try.prog (Instr.field 135 (.agg #[.int .i64 l, .int .i64 t, .int .i64 i]) 2) w = .ok (.int .i64 i) w := by kernel_rfl
/-- The first one and the last one change places: all but the last one are a heap but for the root. -/
theorem pop_split {ps : List P3} (hh : HeapL ps) (hne : 0 < ps.length) : ∃ qs, swapL ps 0 (ps.length - 1) = qs ++ [at3 ps 0] ∧ (at3 ps 0 :: qs).Perm ps ∧ HeapDn qs 0 ∧ qs.length + 1 = ps.length := by
  rcases List.eq_nil_or_concat ps with rfl | ⟨qs, y, rfl⟩
  · simp at hne
  · simp only [List.concat_eq_append] at hh hne ⊢
    rw [List.length_append, List.length_singleton, Nat.add_sub_cancel]
    rcases Nat.eq_zero_or_pos qs.length with h0 | h0
    · obtain rfl := List.eq_nil_of_length_eq_zero h0
      exact ⟨[], swapL_self (by simp), List.Perm.refl _, ⟨fun k h1 h2 => by simp at h2, fun h1 => by omega⟩, rfl⟩
    · refine ⟨qs.set 0 y, ?_, ?_, HeapL.popped hh h0, by simp⟩
      · rw [swap_last h0, at3_app h0]
      · rw [at3_app h0]; exact popped_perm h0

set_option maxRecDepth 100000 in
set_option maxHeartbeats 1000000 in
theorem hpop_any (ps : List P3) (lb : Nat) (A : Option Addr) (c : Nat) (hne : 0 < ps.length) (hl : ps.length ≤ 1048576) (w : World) (hh : HeapL ps) (h : LineIn w lb A c ps) :
    Calls Try.prog 155 #[lineV lb] w fun r w' => r = .returned (.iface 135 (at3 ps 0).val) ∧ ∃ qs, (at3 ps 0 :: qs).Perm ps ∧ HeapL qs ∧ Sep (fps (lineL lb A c ps)) w w' (lineL lb A c qs) := by
  obtain ⟨q1, hs, hp, hd, hq1⟩ := pop_split hh hne
  generalize at3 ps 0 = y at *
  unfold lineV
  have qL : w.cell? ⟨lb, 0, none⟩ = some (.slice A ps.length c) := Sep.cell h 0 0 rfl
  have H := hide (⟨h, hs, hp, hd, hq1⟩ : _ ∧ _ ∧ _ ∧ _ ∧ _)
  clear h hs hp hd hh hq1
  go_enter Try.func155, Try.ntmps155
  go_wp2_with fail
  rw [inv_len _ lb A ps.length c _ qL]
  go_wp2_with fail
  go_call (len_any A ps.length c _) as r W2 ⟨rfl, rfl⟩
  go_wp2_with fail
  rw [inv_swap _ lb A ps.length c _ qL]
  go_wp2_with fail
  rw [show (ps.length : Int) - 1 = ((ps.length - 1 : Nat) : Int) from by omega]
  have hR : (rP ps.length A c ps).here w := Sep.rowAt H.out.1 1 rfl
  have hS := swap_any ps A c 0 (ps.length - 1) (by omega) (by omega) (by omega) w hR
  clear hR
  replace hS : Calls Try.prog 192 #[.slice A ps.length c, .int .i64 0, .int .i64 ((ps.length - 1 : Nat) : Int)] w _ := hS
  apply Calls.mono
  focus with_reducible exact hS
  clear hS qL
  rintro r W3 ⟨⟨v', rfl⟩, g3⟩
  have M := Sep.swapped H.out.1 g3
  clear g3
  obtain ⟨n, hn⟩ : ∃ n, n = ps.length - 1 := ⟨_, rfl⟩
  rw [H.out.2.1] at M
  have hD := hdown_any q1 (y) (q1 ++ [y]) lb A c n (by have := H.out.2.2.2.2; omega) (by have := H.out.2.2.2.2; simp; omega) _ ⟨q1, rfl, List.Perm.refl _, H.out.2.2.2.1⟩ (LineIn.of (rs := []) M)
  rw [← hn]
  have HN := hide hn
  clear hn
  unfold lineV at hD
  go_wp2_with fail
  apply Calls.mono
  focus with_reducible exact hD
  clear hD
  rintro r W4 ⟨⟨v4, rfl⟩, q2, hp2, hh2, M2⟩
  replace M2 := Sep.comp (ps := lineL lb A c (q1 ++ [y])) (rs := []) M M2
  have hP := pop_any q2 (y) lb A c (by have h1 := hp2.length_eq; have := H.out.2.2.2.2; omega) _ (LineIn.of (rs := []) M2)
  go_wp2_with fail
  apply Calls.mono
  focus with_reducible exact hP
  clear hP
  rintro r W5 ⟨rfl, M3⟩
  replace M3 := Sep.comp (ps := lineL lb A c (q2 ++ [y])) (rs := []) (by simpa using M2) M3
  go_wp2_with fail
  go_ret
  exact ⟨rfl, q2, (hp2.cons _).trans H.out.2.2.1, hh2, M3⟩

set_option maxRecDepth 100000 in
set_option maxHeartbeats 1000000 in
theorem next_any (ps : List P3) (lb : Nat) (A : Option Addr) (c : Nat) (hne : 0 < ps.length) (hl : ps.length ≤ 1048576) (w : World) (hh : HeapL ps) (h : LineIn w lb A c ps) :
    Calls Try.prog 118 #[.pointer (some ⟨lb, 0, none⟩)] w fun r w' => r = .returned (.int .i64 (at3 ps 0).i) ∧ ∃ qs, (at3 ps 0 :: qs).Perm ps ∧ HeapL qs ∧ Sep (fps (lineL lb A c ps)) w w' (lineL lb A c qs) := by
  have hP := hide (hpop_any ps lb A c hne hl w hh h)
  clear hh h
  generalize at3 ps 0 = y at *
  obtain ⟨l1, t1, i1⟩ := y
  unfold lineV P3.val at hP
  simp only at hP ⊢
  go_enter Try.func118, Try.ntmps118
  go_wp2_with fail
  apply Calls.mono
  focus with_reducible exact hP.out
  clear hP
  rintro r W5 ⟨rfl, qs, hp, hh, M3⟩
  have HH := hide (⟨hp, hh, M3⟩ : _ ∧ _ ∧ _)
  clear hp hh M3
  go_wp2_with fail
  rw [assert_place]
  go_wp2_with fail
  rw [field_place]
  go_wp2_with fail
  go_ret
  exact ⟨rfl, qs, HH.out.1, HH.out.2.1, HH.out.2.2⟩
end Go.Proofs.Ytgncjcnobojgbaa
