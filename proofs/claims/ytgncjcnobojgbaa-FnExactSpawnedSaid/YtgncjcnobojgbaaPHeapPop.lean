/- The program's line behind a pointer: Pop, container/heap's Pop over it, next. The list of places no longer than a million. -/
import Derived.Test.YtgncjcnobojgbaaPHeapPush
namespace Go.Proofs.Ytgncjcnobojgbaa
open Go.RowKit
set_option linter.unusedVariables false

/-- The last place leaves the row. -/
theorem Sep.popped {S : List Nat} {w W W' : World} {lb g : Nat} {c n : Nat} {qs : List P3} {x : P3} (hn : n = qs.length) (M : Sep S w W (lineL lb (some ⟨g, 0, none⟩) c (qs ++ [x]))) (hb : Below W.heap.size W W') : Sep S w (W'.setCell ⟨lb, 0, none⟩ (.slice (some ⟨g, 0, none⟩) n c)) (lineL lb (some ⟨g, 0, none⟩) c qs) := by
  subst hn
  have M2 := M.call hb
  have h1 : W'.ownsRow 0 135 3 (.slice (some ⟨g, 0, none⟩) (qs ++ [x]).length c) (qs ++ [x]).length (pcells (qs ++ [x])) := M2.rowAt 1 rfl
  have h2 := Own.cut h1 (k := qs.length) (by simp)
  rw [pcells_take, List.take_left] at h2
  have k : Sep (fps [rP (qs ++ [x]).length (some ⟨g, 0, none⟩) c (qs ++ [x])]) W' W' [rP qs.length (some ⟨g, 0, none⟩) c qs] := sepOne (fun _ h => .inl h) (World.grownBy.refl _ _) h2
  have h3 := Sep.comp (ps := [rP (qs ++ [x]).length (some ⟨g, 0, none⟩) c (qs ++ [x])]) (rs := [.blk lb 132 #[.slice (some ⟨g, 0, none⟩) (qs ++ [x]).length c]]) (M2.front 1 rfl) k
  exact (h3.front 1 rfl).set 0 rfl 0 (.slice (some ⟨g, 0, none⟩) qs.length c)

set_option maxRecDepth 100000 in
set_option maxHeartbeats 1000000 in
theorem pop_any (qs : List P3) (x : P3) (lb : Nat) (A : Option Addr) (c : Nat) (hl : qs.length < 1048576) (w : World) (h : LineIn w lb A c (qs ++ [x])) :
    Calls Try.prog 190 #[.pointer (some ⟨lb, 0, none⟩)] w fun r w' => r = .returned (.iface 135 x.val) ∧ Sep (fps (lineL lb A c (qs ++ [x]))) w w' (lineL lb A c qs) := by
  obtain ⟨ps, hps⟩ : ∃ ps, ps = qs ++ [x] := ⟨_, rfl⟩
  rw [← hps] at h
  have hlen : ps.length = qs.length + 1 := by rw [hps]; simp
  have hR : (rP ps.length A c ps).here w := Sep.here h _ (by simp [lineL])
  obtain ⟨g, rfl, hgl, hfz⟩ := rP_form hR (by omega)
  obtain ⟨b, off, e, hb, z0, z1, z2⟩ := (Row.of_own hR).ps_at (k := qs.length) (by omega)
  injection e with e
  injection e with e1 e2
  subst e1 e2
  simp only [Nat.zero_add] at z0 z1 z2
  have hx : ps[qs.length] = x := by subst hps; simp
  rw [hx] at z0 z1 z2
  have qL : w.cell? ⟨lb, 0, none⟩ = some (.slice (some ⟨g, 0, none⟩) ps.length c) := Sep.cell h 0 0 rfl
  have fL : w.frozen? ⟨lb, 0, none⟩ = false := Sep.fz h 0 0 rfl
  have tL : lb < w.heap.size := Sep.lt h 0 rfl
  have ne : w.heap.size ≠ lb := by omega
  have ne2 : w.heap.size ≠ g := by omega
  have hcap : ps.length ≤ c := own_cap (show w.ownsRow 0 135 3 (.slice (some ⟨g, 0, none⟩) ps.length c) ps.length (pcells ps) from hR)
  have H := hide (⟨h, hps, hlen⟩ : _ ∧ _ ∧ _)
  rw [← hps]
  have hn : (ps.length : Int) - 1 = (qs.length : Int) := by omega
  have hn1 : (qs.length : Int) < (ps.length : Int) := by omega
  have hn0 : (0 : Int) ≤ (qs.length : Int) := by omega
  have hn2 : (qs.length : Int) ≤ (c : Int) := by omega
  have hn3 : qs.length ≤ c := by omega
  clear h hR hx hps hlen hfz hcap hb
  obtain ⟨l, t, i⟩ := x
  simp only at z0 z1 z2
  unfold P3.val
  generalize qs.length = n at *
  go_enter Try.func190, Try.ntmps190
  go_wp2_with fail
  go_ret
  rw [H.out.2.1]
  have M := H.out.1
  unfold LineIn at M
  rw [H.out.2.1] at M
  exact ⟨rfl, (Sep.allocN (Sep.popped (by have h1 := H.out.2.2; have h2 := congrArg List.length H.out.2.1; simp at h2; omega) M (Below.refl _ _)) _ _).tail⟩

theorem field_place (l t i : Int) (w : World) : Sem.run Try.prog (Instr.field 135 (.agg #[.int .i64 l, .int .i64 t, .int .i64 i]) 2) w = .ok (.int .i64 i) w := by kernel_rfl
/-- The first one and the last one change places: all but the last one are a heap but for the root. -/
theorem pop_split {ps : List P3} (hh : HeapL ps) (hne : 0 < ps.length) : ∃ qs, swapL ps 0 (ps.length - 1) = qs ++ [at3 ps 0] ∧ (at3 ps 0 :: qs).Perm ps ∧ HeapDn qs 0 ∧ qs.length + 1 = ps.length := by
  rcases List.eq_nil_or_concat ps with rfl | ⟨qs, y, rfl⟩
  · simp at hne
  · simp only [List.concat_eq_append] at hh hne ⊢
    rw [List.length_append, List.length_singleton, Nat.add_sub_cancel]
    rcases Nat.eq_zero_or_pos qs.length with h0 | h0
    · obtain rfl := List.eq_nil_of_length_eq_zero h0
      exact ⟨[], swapL_self (by simp), List.Perm.refl _, ⟨fun k h1 h2 => by simp at h2, fun h1 => by omega⟩, rfl⟩
    · refine ⟨qs.set 0 y, ?_, ?_, HeapL.popped hh h0, by simp⟩
      · rw [swap_last h0, at3_app h0]
      · rw [at3_app h0]; exact popped_perm h0

set_option maxRecDepth 100000 in
set_option maxHeartbeats 1000000 in
theorem hpop_any (ps : List P3) (lb : Nat) (A : Option Addr) (c : Nat) (hne : 0 < ps.length) (hl : ps.length ≤ 1048576) (w : World) (hh : HeapL ps) (h : LineIn w lb A c ps) :
    Calls Try.prog 155 #[lineV lb] w fun r w' => r = .returned (.iface 135 (at3 ps 0).val) ∧ ∃ qs, (at3 ps 0 :: qs).Perm ps ∧ HeapL qs ∧ Sep (fps (lineL lb A c ps)) w w' (lineL lb A c qs) := by
  obtain ⟨q1, hs, hp, hd, hq1⟩ := pop_split hh hne
  generalize at3 ps 0 = y at *
  unfold lineV
  have qL : w.cell? ⟨lb, 0, none⟩ = some (.slice A ps.length c) := Sep.cell h 0 0 rfl
  have H := hide (⟨h, hs, hp, hd, hq1⟩ : _ ∧ _ ∧ _ ∧ _ ∧ _)
  clear h hs hp hd hh hq1
  go_enter Try.func155, Try.ntmps155
  go_wp2_with fail
  rw [inv_len _ lb A ps.length c _ qL]
  go_wp2_with fail
  go_call (len_any A ps.length c _) as r W2 ⟨rfl, rfl⟩
  go_wp2_with fail
  rw [inv_swap _ lb A ps.length c _ qL]
  go_wp2_with fail
  rw [show (ps.length : Int) - 1 = ((ps.length - 1 : Nat) : Int) from by omega]
  have hR : (rP ps.length A c ps).here w := Sep.rowAt H.out.1 1 rfl
  have hS := swap_any ps A c 0 (ps.length - 1) (by omega) (by omega) (by omega) w hR
  clear hR
  replace hS : Calls Try.prog 192 #[.slice A ps.length c, .int .i64 0, .int .i64 ((ps.length - 1 : Nat) : Int)] w _ := hS
  apply Calls.mono
  focus with_reducible exact hS
  clear hS qL
  rintro r W3 ⟨⟨v', rfl⟩, g3⟩
  have M := Sep.swapped H.out.1 g3
  clear g3
  obtain ⟨n, hn⟩ : ∃ n, n = ps.length - 1 := ⟨_, rfl⟩
  rw [H.out.2.1] at M
  have hD := down_any q1 (y) (q1 ++ [y]) lb A c n (by have := H.out.2.2.2.2; omega) (by have := H.out.2.2.2.2; simp; omega) _ ⟨q1, rfl, List.Perm.refl _, H.out.2.2.2.1⟩ (LineIn.of (rs := []) M)
  rw [← hn]
  have HN := hide hn
  clear hn
  unfold lineV at hD
  go_wp2_with fail
  apply Calls.mono
  focus with_reducible exact hD
  clear hD
  rintro r W4 ⟨⟨v4, rfl⟩, q2, hp2, hh2, M2⟩
  replace M2 := Sep.comp (ps := lineL lb A c (q1 ++ [y])) (rs := []) M M2
  have hP := pop_any q2 (y) lb A c (by have h1 := hp2.length_eq; have := H.out.2.2.2.2; omega) _ (LineIn.of (rs := []) M2)
  go_wp2_with fail
  apply Calls.mono
  focus with_reducible exact hP
  clear hP
  rintro r W5 ⟨rfl, M3⟩
  replace M3 := Sep.comp (ps := lineL lb A c (q2 ++ [y])) (rs := []) (by simpa using M2) M3
  go_wp2_with fail
  go_ret
  exact ⟨rfl, q2, (hp2.cons _).trans H.out.2.2.1, hh2, M3⟩

set_option maxRecDepth 100000 in
set_option maxHeartbeats 1000000 in
theorem next_any (ps : List P3) (lb : Nat) (A : Option Addr) (c : Nat) (hne : 0 < ps.length) (hl : ps.length ≤ 1048576) (w : World) (hh : HeapL ps) (h : LineIn w lb A c ps) :
    Calls Try.prog 118 #[.pointer (some ⟨lb, 0, none⟩)] w fun r w' => r = .returned (.int .i64 (at3 ps 0).i) ∧ ∃ qs, (at3 ps 0 :: qs).Perm ps ∧ HeapL qs ∧ Sep (fps (lineL lb A c ps)) w w' (lineL lb A c qs) := by
  have hP := hide (hpop_any ps lb A c hne hl w hh h)
  clear hh h
  generalize at3 ps 0 = y at *
  obtain ⟨l1, t1, i1⟩ := y
  unfold lineV P3.val at hP
  simp only at hP ⊢
  go_enter Try.func118, Try.ntmps118
  go_wp2_with fail
  apply Calls.mono
  focus with_reducible exact hP.out
  clear hP
  rintro r W5 ⟨rfl, qs, hp, hh, M3⟩
  have HH := hide (⟨hp, hh, M3⟩ : _ ∧ _ ∧ _)
  clear hp hh M3
  go_wp2_with fail
  rw [assert_place]
  go_wp2_with fail
  rw [field_place]
  go_wp2_with fail
  go_ret
  exact ⟨rfl, qs, HH.out.1, HH.out.2.1, HH.out.2.2⟩
end Go.Proofs.Ytgncjcnobojgbaa
