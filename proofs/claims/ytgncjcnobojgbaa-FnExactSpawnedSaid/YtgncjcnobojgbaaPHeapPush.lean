/- The program's line behind a pointer: Push, and container/heap's Push over it. The list of places shorter than a million. -/
import Derived.Test.YtgncjcnobojgbaaPHeapDown
import Derived.Test.YtgncjcnobojgbaaAppendS
namespace Go.Proofs.Ytgncjcnobojgbaa
open Go.RowKit
set_option linter.unusedVariables false

theorem rowLit3 (w : World) (t : TypeId) (v0 v1 v2 : Value) : Row (w.alloc (.cells #[v0, v1, v2] t)) (some ⟨w.heap.size, 0, none⟩) [v0, v1, v2] :=
  Row.of_own (World.ownsRow_lit (base := 0) (e := t) (size := 3) w #[v0, v1, v2] 1 (Nat.zero_le _) (by simp [maxLen]) (by simp))
theorem pcells_snoc (ps : List P3) (x : P3) : pcells ps ++ x.cs = pcells (ps ++ [x]) := by simp [pcells]
theorem info_parts3 : ∃ i : TypeInfo, Try.prog.info? 135 = some i ∧ i.zero = some (.agg #[.int .i64 0, .int .i64 0, .int .i64 0]) ∧ i.size = 3 ∧ i.bytes = 24 := by
  have h := infoPlace
  cases hi : Try.prog.info? 135 with
  | none => rw [hi] at h; cases h
  | some i =>
    rw [hi] at h
    simp only [Option.map_some, Option.some.injEq, Prod.mk.injEq] at h
    exact ⟨i, rfl, h.1, h.2.1, h.2.2⟩
theorem assert_place (v : Value) (w : World) : Sem.run Try.prog (Instr.typeAssert (.iface 135 v) 20 135 false) w = .ok v w := by kernel_rfl
/-- The row grows by a place, and the variable has it. -/
theorem Sep.pushed {S : List Nat} {w W W' : World} {lb : Nat} {A A' : Option Addr} {c c' n : Nat} {ps : List P3} {x : P3} (hn : n = ps.length) (M : Sep S w W (lineL lb A c ps)) (k : Sep (fps [rP ps.length A c ps]) W W' [rP (n + 1) A' c' (ps ++ [x])]) : Sep S w (W'.setCell ⟨lb, 0, none⟩ (.slice A' (n + 1) c')) (lineL lb A' c' (ps ++ [x])) := by
  subst hn
  have h := Sep.comp (ps := [rP ps.length A c ps]) (rs := [.blk lb 132 #[.slice A ps.length c]]) (M.front 1 rfl) k
  have h2 := (h.front 1 rfl).set 0 rfl 0 (.slice A' (ps.length + 1) c')
  have e : (ps ++ [x]).length = ps.length + 1 := by simp
  unfold lineL
  rw [e]
  exact h2

set_option maxRecDepth 100000 in
set_option maxHeartbeats 1000000 in
theorem push_any (ps : List P3) (lb : Nat) (A : Option Addr) (c : Nat) (l t i : Int) (hl : ps.length < 1048576) (w : World) (h : LineIn w lb A c ps) :
    Calls Try.prog 191 #[.pointer (some ⟨lb, 0, none⟩), .iface 135 (.agg #[.int .i64 l, .int .i64 t, .int .i64 i])] w fun r w' => (∃ v, r = .returned v) ∧ ∃ A' c', Sep (fps (lineL lb A c ps)) w w' (lineL lb A' c' (ps ++ [⟨l, t, i⟩])) := by
  obtain ⟨i0, hi, hz0, hz1, hz2⟩ := info_parts3
  have qL : w.cell? ⟨lb, 0, none⟩ = some (.slice A ps.length c) := Sep.cell h 0 0 rfl
  have fL : w.frozen? ⟨lb, 0, none⟩ = false := Sep.fz h 0 0 rfl
  have hta := fun w => assert_place (.agg #[.int .i64 l, .int .i64 t, .int .i64 i]) w
  have H := hide h
  clear h
  go_enter Try.func191, Try.ntmps191
  go_wp2_with fail
  refine wp_region_T (S := (fun w' => w'.cell? ⟨lb, 0, none⟩ = some (.slice A ps.length c))) (ks := [9]) (by kernel_rfl) qL (fun hHeld => ?_)
  refine wpAnyT_takeY (i := 0) (v := ?v0) rfl (by kernel_rfl) (by kernel_rfl) (by kernel_rfl) (by kernel_rfl) (fun _ _ _ h => h) (by rfl) ?hy0 (fun _ => hHeld) ?rest0
  case hy0 => (intro w; go_simp; all_goals with_reducible rfl)
  try simp only [Act.put, List.setIfInBounds_toArray, List.set_cons_zero, List.set_cons_succ]
  refine wpAnyT_takeY (i := 1) (v := ?v1) rfl (by kernel_rfl) (by kernel_rfl) (by kernel_rfl) (by kernel_rfl) (fun _ _ _ h => h) (by rfl) ?hy1 (fun _ => hHeld) ?rest1
  case hy1 => (intro w; go_simp; all_goals with_reducible rfl)
  try simp only [Act.put, List.setIfInBounds_toArray, List.set_cons_zero, List.set_cons_succ]
  refine wpAnyT_takeY (i := 2) (v := ?v2) rfl (by kernel_rfl) (by kernel_rfl) (by kernel_rfl) (by kernel_rfl) (fun _ _ _ h => h) (by rfl) ?hy2 (fun _ => hHeld) ?rest2
  case hy2 => (intro w; go_simp; all_goals with_reducible rfl)
  try simp only [Act.put, List.setIfInBounds_toArray, List.set_cons_zero, List.set_cons_succ]
  refine wpAnyT_takeL (i := 3) (v := ?v3) rfl (by kernel_rfl) (by kernel_rfl) (by kernel_rfl) (by kernel_rfl) (by kernel_rfl) (fun _ _ _ h => h) (by rfl) ?hy3 hHeld ?rest3
  case hy3 => (intro w hSw; (try dsimp only at hSw); go_split_ands; go_simp; all_goals with_reducible rfl)
  try simp only [Act.put, List.setIfInBounds_toArray, List.set_cons_zero, List.set_cons_succ]
  refine wpAnyT_takeY (i := 4) (v := ?v4) rfl (by kernel_rfl) (by kernel_rfl) (by kernel_rfl) (by kernel_rfl) (fun _ _ _ h => h) (by rfl) ?hy4 (fun _ => hHeld) ?rest4
  case hy4 => (intro w; go_simp; all_goals with_reducible rfl)
  try simp only [Act.put, List.setIfInBounds_toArray, List.set_cons_zero, List.set_cons_succ]
  refine wpAnyT_takeY (i := 5) (v := ?v5) rfl (by kernel_rfl) (by kernel_rfl) (by kernel_rfl) (by kernel_rfl) (fun _ _ _ h => h) (by rfl) ?hy5 (fun _ => hHeld) ?rest5
  case hy5 => (intro w; go_simp; all_goals with_reducible rfl)
  try simp only [Act.put, List.setIfInBounds_toArray, List.set_cons_zero, List.set_cons_succ]
  refine wpAnyT_callL (i := 6) rfl (by kernel_rfl) (fun K hK => ?_)
  go_simp
  refine hK.out _ _ ?_ (fun hHeld => ?_)
  · exact (Sep.cell (Sep.allocN H.out _ _) 1 0 rfl)
  clear hK K
  try simp only [Act.put, List.setIfInBounds_toArray, List.set_cons_zero, List.set_cons_succ]
  have M1 : Sep (fps (lineL lb A c ps)) w (w.alloc (.cells #[.int .i64 l, .int .i64 t, .int .i64 i] 135)).drew (.blk w.heap.size 135 #[.int .i64 l, .int .i64 t, .int .i64 i] :: lineL lb A c ps) := Sep.drew (Sep.allocN H.out 135 #[.int .i64 l, .int .i64 t, .int .i64 i])
  have hR1 : Row (w.alloc (.cells #[.int .i64 l, .int .i64 t, .int .i64 i] 135)).drew (some ⟨w.heap.size, 0, none⟩) [.int .i64 l, .int .i64 t, .int .i64 i] := rowLit3 w 135 _ _ _
  generalize (w.alloc (.cells #[.int .i64 l, .int .i64 t, .int .i64 i] 135)).drew = W1 at M1 hR1 hHeld ⊢
  have hO : W1.ownsRow 0 135 3 (.slice A ps.length c) ps.length (pcells ps) := Sep.rowAt M1 2 rfl
  refine wpAnyT_callL (i := 7) rfl (by kernel_rfl) (fun K hK => ?_)
  refine step_append_sep rfl (.tmp 7) (.tmp 10) 132 rfl 135 i0 (.agg #[.int .i64 0, .int .i64 0, .int .i64 0]) 3 24 Try.underlying132 hi hz0 hz1 hz2 rfl (by decide) A ps.length c (pcells ps) rfl hO ⟨w.heap.size, 0, none⟩ 1 1 [.int .i64 l, .int .i64 t, .int .i64 i] rfl rfl hR1 (by simp) (by simp [Value.oneCell']) (by unfold maxLen; omega) (by omega) ?_
  intro A' c' W2 k
  have k' : Sep (fps [rP ps.length A c ps]) W1 W2 [rP (ps.length + 1) A' c' (ps ++ [⟨l, t, i⟩])] := by unfold rP; rw [← pcells_snoc]; exact k
  have M2 := Sep.comp (ps := [rP ps.length A c ps]) (rs := [.blk lb 132 #[.slice A ps.length c]]) ((Sep.tail M1).front 1 rfl) k'
  have fL2 : W2.frozen? ⟨lb, 0, none⟩ = false := Sep.fz M2 1 0 rfl
  have tL2 := Sep.lt M2 1 rfl
  refine hK.out _ _ ?_ (fun hHeld => ?_)
  · exact Sep.cell M2 1 0 rfl
  clear hK K
  try simp only [Act.put, List.setIfInBounds_toArray, List.set_cons_zero, List.set_cons_succ]
  refine wpAnyT_takeY (i := 8) (v := ?v8) rfl (by kernel_rfl) (by kernel_rfl) (by kernel_rfl) (by kernel_rfl) (fun _ _ _ h => h) (by rfl) ?hy8 (fun _ => hHeld) ?rest8
  case hy8 => (intro w; go_simp; all_goals with_reducible rfl)
  try simp only [Act.put, List.setIfInBounds_toArray, List.set_cons_zero, List.set_cons_succ]
  refine wpAnyT_oneL (i := 9) rfl (by kernel_rfl) (by kernel_rfl) (fun K hK => ?_)
  go_simp
  refine hK.out _ _ ?_
  clear hK K
  try simp only [Act.put, List.setIfInBounds_toArray, List.set_cons_zero, List.set_cons_succ]
  refine wpAnyT_done (by kernel_rfl) ?_ _
  go_end0
  refine ⟨⟨_, rfl⟩, A', c', ?_⟩
  exact Sep.pushed rfl (Sep.tail M1) k'

set_option maxRecDepth 100000 in
set_option maxHeartbeats 4000000 in
theorem hpush_any (ps : List P3) (lb : Nat) (A : Option Addr) (c : Nat) (l t i : Int) (hl : ps.length < 1048576) (w : World) (hh : HeapL ps) (h : LineIn w lb A c ps) :
    Calls Try.prog 116 #[lineV lb, .iface 135 (.agg #[.int .i64 l, .int .i64 t, .int .i64 i])] w fun r w' => (∃ v, r = .returned v) ∧ ∃ A' c' qs, qs.Perm (ps ++ [⟨l, t, i⟩]) ∧ HeapL qs ∧ Sep (fps (lineL lb A c ps)) w w' (lineL lb A' c' qs) := by
  unfold lineV
  have H := hide (⟨h, hh⟩ : _ ∧ _)
  clear h hh
  go_enter Try.func116, Try.ntmps116
  go_wp2_with fail
  go_call (push_any ps lb A c l t i hl _ H.out.1) as r W1 ⟨⟨v, rfl⟩, A', c', M⟩
  have qL : W1.cell? ⟨lb, 0, none⟩ = some (.slice A' (ps ++ [(⟨l, t, i⟩ : P3)]).length c') := Sep.cell M 0 0 rfl
  obtain ⟨qs, hqs⟩ : ∃ qs, qs = ps ++ [(⟨l, t, i⟩ : P3)] := ⟨_, rfl⟩
  rw [← hqs] at M qL
  have HQ := hide (⟨hqs, show HeapUp qs ps.length from by rw [hqs]; exact H.out.2.push _, show qs.length = ps.length + 1 from by rw [hqs]; simp⟩ : _ ∧ _ ∧ _)
  have hql : qs.length ≤ 1048576 := by have := HQ.out.2.2; omega
  clear hqs
  go_wp2_with fail
  rw [inv_len _ lb A' qs.length c' _ qL]
  go_wp2_with fail
  go_call (len_any A' qs.length c' _) as r W2 ⟨rfl, rfl⟩
  go_wp2_with fail
  rw [show (qs.length : Int) - 1 = (ps.length : Int) from by have := HQ.out.2.2; omega]
  have hU := up_any qs lb A' c' ps.length (by have := HQ.out.2.2; omega) hql _ HQ.out.2.1 (LineIn.of (rs := []) M)
  unfold lineV at hU
  apply Calls.mono
  focus with_reducible exact hU
  rintro r W3 ⟨⟨v', rfl⟩, qs', hn', hp', hh', M'⟩
  go_wp2_with fail
  go_end0
  refine ⟨⟨_, rfl⟩, A', c', qs', by rw [← HQ.out.1]; exact hp', hh', ?_⟩
  have := Sep.comp (ps := lineL lb A' c' qs) (rs := []) M M'
  exact this
end Go.Proofs.Ytgncjcnobojgbaa
