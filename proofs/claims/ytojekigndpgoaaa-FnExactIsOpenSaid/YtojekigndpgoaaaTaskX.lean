/- Chapter 2's TaskOk, NewTask and IsOpen of the program, NewTask and IsOpen of the model, and the laws' own helpers over tasks: what each answers; what was in memory stays as it was. No condition. -/
import Derived.Test.YtojekigndpgoaaaTask
import Derived.Test.YtojekigndpgoaaaSTask
namespace Go.Proofs.Ytojekigndpgoaaa
open Go.RowKit

set_option maxHeartbeats 1000000 in
theorem gTaskOk_any (a b c d e s l o wt on v t : Int) (w : World) :
    Calls Try.prog 12 #[.agg #[.int .i64 a, .int .i64 b, .int .i64 c, .int .i64 d, .int .i64 e], .agg #[.int .i64 s, .int .i64 l, .int .i64 o, .int .i64 wt, .int .i64 on, .int .i64 v, .int .i64 t]] w fun r w' => r = .returned (.bool (taskB a b c d e s l o wt on v t)) ∧ Below w.heap.size w w' := by
  go_enter Try.func12, Try.ntmps12
  go_wp2_with fail
  go_call (tright_any a b c d e s l o wt on v t _) as r w1 ⟨rfl, hb1⟩
  go_wp2_with fail
  go_ret
  exact ⟨rfl, Below.trans (by go_grown) (hb1.mono (by go_size))⟩

set_option maxHeartbeats 1000000 in
theorem gIsOpen_any (s l o wt on v t : Int) (w : World) :
    Calls Try.prog 13 #[.agg #[.int .i64 s, .int .i64 l, .int .i64 o, .int .i64 wt, .int .i64 on, .int .i64 v, .int .i64 t]] w fun r w' => r = .returned (.bool (openB s)) ∧ Below w.heap.size w w' := by
  go_enter Try.func13, Try.ntmps13
  go_wp2_with fail
  go_call (state_any s l o wt on v t _) as r w1 ⟨rfl, hb1⟩
  go_wp2_with fail
  go_call (open_any s _) as r w2 ⟨rfl, hb2⟩
  go_wp2_with fail
  go_ret
  exact ⟨rfl, Below.trans (Below.trans (by go_grown) (hb1.mono (by go_size))) (hb2.mono (by have := hb1.size; simp at this; omega))⟩

set_option maxHeartbeats 1000000 in
theorem sIsOpen_any (s l o wt on v t : Int) (w : World) :
    Calls Try.prog 16 #[.agg #[.int .i64 s, .int .i64 l, .int .i64 o, .int .i64 wt, .int .i64 on, .int .i64 v, .int .i64 t]] w fun r w' => r = .returned (.bool (openB s)) ∧ Below w.heap.size w w' := by
  go_enter Try.func16, Try.ntmps16
  go_wp2_with fail
  go_call (l1In_any _ _ _ _) as r w1 ⟨rfl, rfl⟩
  go_wp2_with fail
  go_ret
  exact ⟨rfl, by go_grown⟩

set_option maxHeartbeats 1000000 in
theorem gNewTask_any (lv tn : Int) (w : World) :
    Calls Try.prog 10 #[.int .i64 lv, .int .i64 tn] w fun r w' => r = .returned (.agg #[.int .i64 1, .int .i64 lv, .int .i64 (-1), .int .i64 0, .int .i64 0, .int .i64 0, .int .i64 tn]) ∧ Below w.heap.size w w' := by
  go_enter Try.func10, Try.ntmps10
  go_wp2
  exact bodyPost_ret (v := .agg #[.int .i64 1, .int .i64 lv, .int .i64 (-1), .int .i64 0, .int .i64 0, .int .i64 0, .int .i64 tn]) (by simp [results, Try.results10, go_sem]) rfl ⟨rfl, by go_grown⟩

set_option maxHeartbeats 1000000 in
theorem sNewTask_any (lv tn : Int) (w : World) :
    Calls Try.prog 19 #[.int .i64 lv, .int .i64 tn] w fun r w' => r = .returned (.agg #[.int .i64 1, .int .i64 lv, .int .i64 (-1), .int .i64 0, .int .i64 0, .int .i64 0, .int .i64 tn]) ∧ Below w.heap.size w w' := by
  go_enter Try.func19, Try.ntmps19
  go_wp2
  exact bodyPost_ret (v := .agg #[.int .i64 1, .int .i64 lv, .int .i64 (-1), .int .i64 0, .int .i64 0, .int .i64 0, .int .i64 tn]) (by simp [results, Try.results19, go_sem]) rfl ⟨rfl, by go_grown⟩

set_option maxHeartbeats 1000000 in
theorem toTask_any (s l o wt on v t : Int) (w : World) :
    Calls Try.prog 18 #[.agg #[.int .i64 s, .int .i64 l, .int .i64 o, .int .i64 wt, .int .i64 on, .int .i64 v, .int .i64 t]] w fun r w' => r = .returned (.agg #[.int .i64 s, .int .i64 l, .int .i64 o, .int .i64 wt, .int .i64 on, .int .i64 v, .int .i64 t]) ∧ Below w.heap.size w w' := by
  go_enter Try.func18, Try.ntmps18
  go_wp2
  exact bodyPost_ret (v := .agg #[.int .i64 s, .int .i64 l, .int .i64 o, .int .i64 wt, .int .i64 on, .int .i64 v, .int .i64 t]) (by simp [results, Try.results18, go_sem]) rfl ⟨rfl, by go_grown⟩

set_option maxHeartbeats 1000000 in
theorem eqTask_same (s l o wt on v t : Int) (w : World) :
    Calls Try.prog 20 #[.agg #[.int .i64 s, .int .i64 l, .int .i64 o, .int .i64 wt, .int .i64 on, .int .i64 v, .int .i64 t], .agg #[.int .i64 s, .int .i64 l, .int .i64 o, .int .i64 wt, .int .i64 on, .int .i64 v, .int .i64 t]] w fun r w' => r = .returned (.bool true) ∧ Below w.heap.size w w' := by
  go_enter Try.func20, Try.ntmps20
  go_wp2
  go_ret
  exact ⟨rfl, by go_grown⟩

set_option maxHeartbeats 1000000 in
theorem xTaskOk_any (a b c d e s l o wt on v t : Int) (w : World) :
    Calls Try.prog 4 #[.agg #[.int .i64 a, .int .i64 b, .int .i64 c, .int .i64 d, .int .i64 e], .agg #[.int .i64 s, .int .i64 l, .int .i64 o, .int .i64 wt, .int .i64 on, .int .i64 v, .int .i64 t]] w fun r w' => r = .returned (.bool true) ∧ Below w.heap.size w w' := by
  go_enter Try.func4, Try.ntmps4
  go_wp2_with fail
  have kb0 := Blk.new w 38 #[.int .i64 a, .int .i64 b, .int .i64 c, .int .i64 d, .int .i64 e]
  have hz0 : (w.alloc (.cells #[.int .i64 a, .int .i64 b, .int .i64 c, .int .i64 d, .int .i64 e] 38)).heap.size = w.heap.size + 1 := by simp
  have kb1 := Blk.new (w.alloc (.cells #[.int .i64 a, .int .i64 b, .int .i64 c, .int .i64 d, .int .i64 e] 38)) 39 #[.int .i64 s, .int .i64 l, .int .i64 o, .int .i64 wt, .int .i64 on, .int .i64 v, .int .i64 t]
  have hz1 : ((w.alloc (.cells #[.int .i64 a, .int .i64 b, .int .i64 c, .int .i64 d, .int .i64 e] 38)).alloc (.cells #[.int .i64 s, .int .i64 l, .int .i64 o, .int .i64 wt, .int .i64 on, .int .i64 v, .int .i64 t] 39)).heap.size = w.heap.size + 2 := by simp
  rw [hz0] at kb1
  replace kb0 := kb0.alloc (.cells #[.int .i64 s, .int .i64 l, .int .i64 o, .int .i64 wt, .int .i64 on, .int .i64 v, .int .i64 t] 39)
  have hBel : Below w.heap.size w ((w.alloc (.cells #[.int .i64 a, .int .i64 b, .int .i64 c, .int .i64 d, .int .i64 e] 38)).alloc (.cells #[.int .i64 s, .int .i64 l, .int .i64 o, .int .i64 wt, .int .i64 on, .int .i64 v, .int .i64 t] 39)) := by go_grown
  generalize ((w.alloc (.cells #[.int .i64 a, .int .i64 b, .int .i64 c, .int .i64 d, .int .i64 e] 38)).alloc (.cells #[.int .i64 s, .int .i64 l, .int .i64 o, .int .i64 wt, .int .i64 on, .int .i64 v, .int .i64 t] 39)) = W0 at kb0 kb1 hBel hz1 ⊢
  have c0_0 := KeptW.cell (W0 := W0) (b := w.heap.size) (o := 0) (u := .int .i64 a) (kb0.cell 0)
  have c0_1 := KeptW.cell (W0 := W0) (b := w.heap.size) (o := 1) (u := .int .i64 b) (kb0.cell 1)
  have c0_2 := KeptW.cell (W0 := W0) (b := w.heap.size) (o := 2) (u := .int .i64 c) (kb0.cell 2)
  have c0_3 := KeptW.cell (W0 := W0) (b := w.heap.size) (o := 3) (u := .int .i64 d) (kb0.cell 3)
  have c0_4 := KeptW.cell (W0 := W0) (b := w.heap.size) (o := 4) (u := .int .i64 e) (kb0.cell 4)
  have c1_0 := KeptW.cell (W0 := W0) (b := w.heap.size + 1) (o := 0) (u := .int .i64 s) (kb1.cell 0)
  have c1_1 := KeptW.cell (W0 := W0) (b := w.heap.size + 1) (o := 1) (u := .int .i64 l) (kb1.cell 1)
  have c1_2 := KeptW.cell (W0 := W0) (b := w.heap.size + 1) (o := 2) (u := .int .i64 o) (kb1.cell 2)
  have c1_3 := KeptW.cell (W0 := W0) (b := w.heap.size + 1) (o := 3) (u := .int .i64 wt) (kb1.cell 3)
  have c1_4 := KeptW.cell (W0 := W0) (b := w.heap.size + 1) (o := 4) (u := .int .i64 on) (kb1.cell 4)
  have c1_5 := KeptW.cell (W0 := W0) (b := w.heap.size + 1) (o := 5) (u := .int .i64 v) (kb1.cell 5)
  have c1_6 := KeptW.cell (W0 := W0) (b := w.heap.size + 1) (o := 6) (u := .int .i64 t) (kb1.cell 6)
  have H := hide (⟨hBel, by omega⟩ : Below w.heap.size w W0 ∧ w.heap.size ≤ W0.heap.size)
  clear hBel hz0 kb0 hz1 kb1
  have hx0 := KeptW.mk'_w (Below.refl W0.heap.size W0)
  generalize KeptW.mk' (Below.refl W0.heap.size W0) = x at hx0
  rw [← hx0]
  clear hx0
  refine region_kept (by kernel_rfl) (by kernel_rfl) ?_
  repeat (go_big_quiet_step (first | (go_at_call 17; with_reducible exact (kept_call (toPlan_any a b c d e _))) | (go_at_call 18; with_reducible exact (kept_call (toTask_any s l o wt on v t _))) | (go_at_call 15; with_reducible exact (kept_call (sTaskOk_any a b c d e s l o wt on v t _))) | (go_at_call 12; with_reducible exact (kept_call (gTaskOk_any a b c d e s l o wt on v t _)))))
  refine wpQuiet_nil ?_
  rintro _ ⟨x, rfl⟩
  go_wp2
  refine region_kept (by kernel_rfl) (by kernel_rfl) ?_
  repeat (go_big_quiet_step (first | (go_at_call 17; with_reducible exact (kept_call (toPlan_any a b c d e _))) | (go_at_call 18; with_reducible exact (kept_call (toTask_any s l o wt on v t _))) | (go_at_call 15; with_reducible exact (kept_call (sTaskOk_any a b c d e s l o wt on v t _))) | (go_at_call 12; with_reducible exact (kept_call (gTaskOk_any a b c d e s l o wt on v t _)))))
  refine wpQuiet_nil ?_
  rintro _ ⟨x, rfl⟩
  go_wp2
  go_ret
  exact ⟨rfl, H.out.1.trans (x.below.mono H.out.2)⟩

set_option maxHeartbeats 1000000 in
theorem xIsOpen_any (s l o wt on v t : Int) (w : World) :
    Calls Try.prog 6 #[.agg #[.int .i64 s, .int .i64 l, .int .i64 o, .int .i64 wt, .int .i64 on, .int .i64 v, .int .i64 t]] w fun r w' => r = .returned (.bool true) ∧ Below w.heap.size w w' := by
  go_enter Try.func6, Try.ntmps6
  go_wp2_with fail
  have kb0 := Blk.new w 39 #[.int .i64 s, .int .i64 l, .int .i64 o, .int .i64 wt, .int .i64 on, .int .i64 v, .int .i64 t]
  have hz0 : (w.alloc (.cells #[.int .i64 s, .int .i64 l, .int .i64 o, .int .i64 wt, .int .i64 on, .int .i64 v, .int .i64 t] 39)).heap.size = w.heap.size + 1 := by simp
  have hBel : Below w.heap.size w (w.alloc (.cells #[.int .i64 s, .int .i64 l, .int .i64 o, .int .i64 wt, .int .i64 on, .int .i64 v, .int .i64 t] 39)) := by go_grown
  generalize (w.alloc (.cells #[.int .i64 s, .int .i64 l, .int .i64 o, .int .i64 wt, .int .i64 on, .int .i64 v, .int .i64 t] 39)) = W0 at kb0 hBel hz0 ⊢
  have c0_0 := KeptW.cell (W0 := W0) (b := w.heap.size) (o := 0) (u := .int .i64 s) (kb0.cell 0)
  have c0_1 := KeptW.cell (W0 := W0) (b := w.heap.size) (o := 1) (u := .int .i64 l) (kb0.cell 1)
  have c0_2 := KeptW.cell (W0 := W0) (b := w.heap.size) (o := 2) (u := .int .i64 o) (kb0.cell 2)
  have c0_3 := KeptW.cell (W0 := W0) (b := w.heap.size) (o := 3) (u := .int .i64 wt) (kb0.cell 3)
  have c0_4 := KeptW.cell (W0 := W0) (b := w.heap.size) (o := 4) (u := .int .i64 on) (kb0.cell 4)
  have c0_5 := KeptW.cell (W0 := W0) (b := w.heap.size) (o := 5) (u := .int .i64 v) (kb0.cell 5)
  have c0_6 := KeptW.cell (W0 := W0) (b := w.heap.size) (o := 6) (u := .int .i64 t) (kb0.cell 6)
  have H := hide (⟨hBel, by omega⟩ : Below w.heap.size w W0 ∧ w.heap.size ≤ W0.heap.size)
  clear hBel hz0 kb0
  have hx0 := KeptW.mk'_w (Below.refl W0.heap.size W0)
  generalize KeptW.mk' (Below.refl W0.heap.size W0) = x at hx0
  rw [← hx0]
  clear hx0
  go_wp2_with (first | (go_at_call 18; with_reducible refine Calls.mono (kept_call (toTask_any s l o wt on v t _)) ?_; rintro _ _ ⟨rfl, x, rfl⟩) | (go_at_call 16; with_reducible refine Calls.mono (kept_call (sIsOpen_any s l o wt on v t _)) ?_; rintro _ _ ⟨rfl, x, rfl⟩) | (go_at_call 13; with_reducible refine Calls.mono (kept_call (gIsOpen_any s l o wt on v t _)) ?_; rintro _ _ ⟨rfl, x, rfl⟩))
  go_ret
  exact ⟨rfl, H.out.1.trans (x.below.mono H.out.2)⟩

set_option maxHeartbeats 1000000 in
theorem xNewTask_any (lv tn : Int) (w : World) :
    Calls Try.prog 5 #[.int .i64 lv, .int .i64 tn] w fun r w' => r = .returned (.bool true) ∧ Below w.heap.size w w' := by
  go_enter Try.func5, Try.ntmps5
  go_wp2_with fail
  go_call (sNewTask_any lv tn _) as r w1 ⟨rfl, hb1⟩
  go_wp2_with fail
  have hz : (w1.alloc (.cells #[.int .i64 1, .int .i64 lv, .int .i64 (-1), .int .i64 0, .int .i64 0, .int .i64 0, .int .i64 tn] 31)).heap.size = w1.heap.size + 1 := by simp
  have kb := Blk.new w1 31 #[.int .i64 1, .int .i64 lv, .int .i64 (-1), .int .i64 0, .int .i64 0, .int .i64 0, .int .i64 tn]
  have hs1 := hb1.size
  have hB : Below w.heap.size w (w1.alloc (.cells #[.int .i64 1, .int .i64 lv, .int .i64 (-1), .int .i64 0, .int .i64 0, .int .i64 0, .int .i64 tn] 31)) := by go_grown
  generalize w1.alloc (.cells #[.int .i64 1, .int .i64 lv, .int .i64 (-1), .int .i64 0, .int .i64 0, .int .i64 0, .int .i64 tn] 31) = w2 at kb hB hz ⊢
  go_call (gNewTask_any lv tn _) as r w3 ⟨rfl, hb3⟩
  replace kb := kb.below hb3 (by omega)
  replace hB := hB.trans (hb3.mono (by omega))
  have hz3 := hb3.size
  clear hb3 hb1
  have e0 : w3.cell? ⟨w1.heap.size, 0, none⟩ = some (.int .i64 1) := kb.cell 0
  have e1 : w3.cell? ⟨w1.heap.size, 1, none⟩ = some (.int .i64 lv) := kb.cell 1
  have e2 : w3.cell? ⟨w1.heap.size, 2, none⟩ = some (.int .i64 (-1)) := kb.cell 2
  have e3 : w3.cell? ⟨w1.heap.size, 3, none⟩ = some (.int .i64 0) := kb.cell 3
  have e4 : w3.cell? ⟨w1.heap.size, 4, none⟩ = some (.int .i64 0) := kb.cell 4
  have e5 : w3.cell? ⟨w1.heap.size, 5, none⟩ = some (.int .i64 0) := kb.cell 5
  have e6 : w3.cell? ⟨w1.heap.size, 6, none⟩ = some (.int .i64 tn) := kb.cell 6
  have hne : w1.heap.size < w3.heap.size := by omega
  have hs0 : w.heap.size ≤ w3.heap.size := by omega
  go_wp2_with fail
  go_call (eqTask_same 1 lv (-1) 0 0 0 tn _) as r w4 ⟨rfl, hb4⟩
  go_wp2_with fail
  go_ret
  exact ⟨rfl, (hB.alloc hs0 _).trans (hb4.mono (by simp; omega))⟩
end Go.Proofs.Ytojekigndpgoaaa
