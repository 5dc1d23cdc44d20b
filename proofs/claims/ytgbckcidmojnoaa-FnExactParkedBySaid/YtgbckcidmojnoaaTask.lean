/- The methods of a task that its check calls: one Bool of plan and task; what was in memory stays as it was. No condition. -/
import Derived.Test.YtgbckcidmojnoaaPlan
import Derived.Test.YtgbckcidmojnoaaKept
namespace Go.Proofs.Ytgbckcidmojnoaa
open Go.RowKit

def cnt (b d e wt : Int) : Int := if wt = 1 then b else if wt = 2 then d else if wt = 3 then e else 0
def ownB (a s o : Int) : Bool := if s = 2 then btw o 0 (a - 1) else o == -1
def waitB (b d e s wt on : Int) : Bool := if s = 3 then btw on 0 (cnt b d e wt - 1) else (wt == 0 && on == 0)
def taskB (a b c d e s l o wt on v t : Int) : Bool := planB a b c d e && (btw s 1 5 && (btw l 0 (c - 1) && (ownB a s o && (waitB b d e s wt on && (btw v 0 9999 && btw t 0 1000000)))))
def openB (s : Int) : Bool := btw s 1 3

theorem planB_all {a b c d e : Int} (h : planB a b c d e = true) : (1 ≤ a ∧ a ≤ 8) ∧ (1 ≤ b ∧ b ≤ 30) ∧ (1 ≤ c ∧ c ≤ 4) ∧ (0 ≤ d ∧ d ≤ 4) ∧ (0 ≤ e ∧ e ≤ 4) := by
  simp [planB, btw] at h; omega
theorem cnt_in {a b c d e : Int} (h : planB a b c d e = true) (wt : Int) : 0 ≤ cnt b d e wt ∧ cnt b d e wt ≤ 30 := by
  have := planB_all h
  unfold cnt; split <;> (try split) <;> (try split) <;> omega

theorem right_v (a b c d e : Int) (v : Bool) (h : planB a b c d e = v) (w : World) :
    Calls Try.prog 47 #[.agg #[.int .i64 a, .int .i64 b, .int .i64 c, .int .i64 d, .int .i64 e]] w fun r w' => r = .returned (.bool v) ∧ Below w.heap.size w w' := h ▸ right_any a b c d e w

/-- What a region's calls leave of the world in which it began. -/
theorem keep0 (W0 : World) : Below W0.heap.size W0 W0.drew ∧ ∀ b o, b < W0.heap.size → W0.drew.cell? ⟨b, o, none⟩ = W0.cell? ⟨b, o, none⟩ :=
  ⟨(Below.refl _ _).drew, fun _ _ _ => rfl⟩
theorem keepS {W0 w w' : World} (h : Below W0.heap.size W0 w ∧ ∀ b o, b < W0.heap.size → w.cell? ⟨b, o, none⟩ = W0.cell? ⟨b, o, none⟩) (k : Below w.heap.size w w') :
    Below W0.heap.size W0 w' ∧ ∀ b o, b < W0.heap.size → w'.cell? ⟨b, o, none⟩ = W0.cell? ⟨b, o, none⟩ :=
  have hb := h.1.trans (k.mono h.1.size)
  ⟨hb, (bcell hb).1⟩
theorem keepEnd {B : Nat} {w W0 w' : World} (hb : Below B w W0 ∧ B ≤ W0.heap.size) (h : Below W0.heap.size W0 w' ∧ ∀ b o, b < W0.heap.size → w'.cell? ⟨b, o, none⟩ = W0.cell? ⟨b, o, none⟩) : Below B w w' :=
  hb.1.trans (h.1.mono hb.2)

set_option maxHeartbeats 1000000 in
theorem countFor_any (a b c d e wt : Int) (w : World) :
    Calls Try.prog 158 #[.agg #[.int .i64 a, .int .i64 b, .int .i64 c, .int .i64 d, .int .i64 e], .int .i64 wt] w fun r w' => r = .returned (.int .i64 (cnt b d e wt)) ∧ Below w.heap.size w w' := by
  go_enter Try.func158, Try.ntmps158
  go_wp2_with fail
  all_goals go_ret
  all_goals refine ⟨?_, (Below.refl _ _).alloc (Nat.le_refl _) _⟩
  all_goals simp_all [cnt]

set_option maxHeartbeats 1000000 in
theorem state_any (s l o wt on v t : Int) (w : World) :
    Calls Try.prog 152 #[.agg #[.int .i64 s, .int .i64 l, .int .i64 o, .int .i64 wt, .int .i64 on, .int .i64 v, .int .i64 t]] w fun r w' => r = .returned (.int .i64 s) ∧ Below w.heap.size w w' := by
  go_enter Try.func152, Try.ntmps152
  go_wp2_with fail
  go_ret
  exact ⟨rfl, (Below.refl _ _).alloc (Nat.le_refl _) _⟩

set_option maxHeartbeats 1000000 in
theorem known_any (s : Int) (w : World) :
    Calls Try.prog 153 #[.int .i64 s] w fun r w' => r = .returned (.bool (btw s 1 5)) ∧ Below w.heap.size w w' := by
  go_enter Try.func153, Try.ntmps153
  go_wp2_with fail
  go_call (between_any _ _ _ _) as r w1 ⟨rfl, rfl⟩
  go_wp2_with fail
  go_ret
  exact ⟨rfl, Below.refl _ _⟩

set_option maxHeartbeats 1000000 in
theorem ownerFits_any (a b c d e s o : Int) (w : World) (hp : planB a b c d e = true) :
    Calls Try.prog 155 #[.int .i64 s, .agg #[.int .i64 a, .int .i64 b, .int .i64 c, .int .i64 d, .int .i64 e], .int .i64 o] w fun r w' => r = .returned (.bool (ownB a s o)) ∧ Below w.heap.size w w' := by
  have hbd := planB_all hp
  by_cases h2 : s = 2
  · subst h2
    go_enter Try.func155, Try.ntmps155
    go_wp2_with fail
    go_call (hasWorker_any a b c d e o _ (by omega) (by omega)) as r w1 ⟨rfl, hb1⟩
    go_wp2_with fail
    go_ret
    exact ⟨rfl, ((Below.refl _ _).alloc (Nat.le_refl _) _).trans (hb1.mono (by simp))⟩
  · go_enter Try.func155, Try.ntmps155
    go_wp2_with fail
    go_ret
    exact ⟨ret_bool (by simp [ownB, h2]), (Below.refl _ _).alloc (Nat.le_refl _) _⟩

set_option maxHeartbeats 1000000 in
theorem waitFits_any (a b c d e s wt on : Int) (w : World) (hp : planB a b c d e = true) :
    Calls Try.prog 156 #[.int .i64 s, .agg #[.int .i64 a, .int .i64 b, .int .i64 c, .int .i64 d, .int .i64 e], .int .i64 wt, .int .i64 on] w fun r w' => r = .returned (.bool (waitB b d e s wt on)) ∧ Below w.heap.size w w' := by
  have hbd := cnt_in hp wt
  by_cases h2 : s = 3
  · subst h2
    go_enter Try.func156, Try.ntmps156
    go_wp2_with fail
    go_call (countFor_any a b c d e wt _) as r w1 ⟨rfl, hb1⟩
    go_wp2_with fail
    go_call (between_any _ _ _ _) as r w2 ⟨rfl, rfl⟩
    go_wp2_with fail
    go_ret
    exact ⟨ret_bool (by simp [waitB]), ((Below.refl _ _).alloc (Nat.le_refl _) _).trans (hb1.mono (by simp))⟩
  · go_enter Try.func156, Try.ntmps156
    go_wp2_with fail
    all_goals go_ret
    all_goals exact ⟨ret_bool (by simp_all [waitB]), (Below.refl _ _).alloc (Nat.le_refl _) _⟩

set_option maxRecDepth 100000 in
set_option maxHeartbeats 4000000 in
theorem tright_any (a b c d e s l o wt on v t : Int) (w : World) :
    Calls Try.prog 148 #[.agg #[.int .i64 s, .int .i64 l, .int .i64 o, .int .i64 wt, .int .i64 on, .int .i64 v, .int .i64 t], .agg #[.int .i64 a, .int .i64 b, .int .i64 c, .int .i64 d, .int .i64 e]] w fun r w' => r = .returned (.bool (taskB a b c d e s l o wt on v t)) ∧ Below w.heap.size w w' := by
  have hbd : planB a b c d e = true → _ := planB_all
  have hc1 : Hid (∀ w, Calls Try.prog 47 #[.agg #[.int .i64 a, .int .i64 b, .int .i64 c, .int .i64 d, .int .i64 e]] w fun r w' => r = .returned (.bool (planB a b c d e)) ∧ Below w.heap.size w w') := hide (fun w => right_any a b c d e w)
  have hc2 : Hid (∀ w, Calls Try.prog 153 #[.int .i64 s] w fun r w' => r = .returned (.bool (btw s 1 5)) ∧ Below w.heap.size w w') := hide (fun w => known_any s w)
  have hc3 : Hid (planB a b c d e = true → ∀ w, Calls Try.prog 154 #[.agg #[.int .i64 a, .int .i64 b, .int .i64 c, .int .i64 d, .int .i64 e], .int .i64 l] w fun r w' => r = .returned (.bool (btw l 0 (c - 1))) ∧ Below w.heap.size w w') := hide (fun h w => hasLevel_any a b c d e l w (by have := hbd h; omega) (by have := hbd h; omega))
  have hc4 : Hid (planB a b c d e = true → ∀ w, Calls Try.prog 155 #[.int .i64 s, .agg #[.int .i64 a, .int .i64 b, .int .i64 c, .int .i64 d, .int .i64 e], .int .i64 o] w fun r w' => r = .returned (.bool (ownB a s o)) ∧ Below w.heap.size w w') := hide (fun h w => ownerFits_any a b c d e s o w h)
  have hc5 : Hid (planB a b c d e = true → ∀ w, Calls Try.prog 156 #[.int .i64 s, .agg #[.int .i64 a, .int .i64 b, .int .i64 c, .int .i64 d, .int .i64 e], .int .i64 wt, .int .i64 on] w fun r w' => r = .returned (.bool (waitB b d e s wt on)) ∧ Below w.heap.size w w') := hide (fun h w => waitFits_any a b c d e s wt on w h)
  have hc6 : Hid (∀ w, Calls Try.prog 91 #[.int .i64 v, .int .i64 0, .int .i64 9999] w fun r w' => r = .returned (.bool (btw v 0 9999)) ∧ w = w') := hide (fun w => between_any v 0 9999 w)
  have hc7 : Hid (∀ w, Calls Try.prog 91 #[.int .i64 t, .int .i64 0, .int .i64 1000000] w fun r w' => r = .returned (.bool (btw t 0 1000000)) ∧ w = w') := hide (fun w => between_any t 0 1000000 w)
  unfold taskB
  clear hbd
  generalize planB a b c d e = x0 at hc1 hc3 hc4 hc5 ⊢
  generalize btw s 1 5 = x1 at hc2 ⊢
  generalize btw l 0 (c - 1) = x2 at hc3 ⊢
  generalize ownB a s o = x3 at hc4 ⊢
  generalize waitB b d e s wt on = x4 at hc5 ⊢
  generalize btw v 0 9999 = x5 at hc6 ⊢
  generalize btw t 0 1000000 = x6 at hc7 ⊢
  go_enter Try.func148, Try.ntmps148
  go_wp2_with fail
  have kp := (Blk.new w 46 #[.int .i64 s, .int .i64 l, .int .i64 o, .int .i64 wt, .int .i64 on, .int .i64 v, .int .i64 t]).alloc (.cells #[.int .i64 a, .int .i64 b, .int .i64 c, .int .i64 d, .int .i64 e] 28)
  have kq := Blk.new (w.alloc (.cells #[.int .i64 s, .int .i64 l, .int .i64 o, .int .i64 wt, .int .i64 on, .int .i64 v, .int .i64 t] 46)) 28 #[.int .i64 a, .int .i64 b, .int .i64 c, .int .i64 d, .int .i64 e]
  have B3 : Below w.heap.size w ((w.alloc (.cells #[.int .i64 s, .int .i64 l, .int .i64 o, .int .i64 wt, .int .i64 on, .int .i64 v, .int .i64 t] 46)).alloc (.cells #[.int .i64 a, .int .i64 b, .int .i64 c, .int .i64 d, .int .i64 e] 28)) := by go_grown
  have hs4 : ((w.alloc (.cells #[.int .i64 s, .int .i64 l, .int .i64 o, .int .i64 wt, .int .i64 on, .int .i64 v, .int .i64 t] 46)).alloc (.cells #[.int .i64 a, .int .i64 b, .int .i64 c, .int .i64 d, .int .i64 e] 28)).heap.size = w.heap.size + 2 := by simp
  have hs3 : (w.alloc (.cells #[.int .i64 s, .int .i64 l, .int .i64 o, .int .i64 wt, .int .i64 on, .int .i64 v, .int .i64 t] 46)).heap.size = w.heap.size + 1 := by simp
  rw [hs3] at kq
  generalize ((w.alloc (.cells #[.int .i64 s, .int .i64 l, .int .i64 o, .int .i64 wt, .int .i64 on, .int .i64 v, .int .i64 t] 46)).alloc (.cells #[.int .i64 a, .int .i64 b, .int .i64 c, .int .i64 d, .int .i64 e] 28)) = W0 at kp kq B3 hs4
  have k0 := KeptW.cell (W0 := W0) (b := w.heap.size) (o := 0) (u := .int .i64 s) (kp.cell 0)
  have k1 := KeptW.cell (W0 := W0) (b := w.heap.size) (o := 1) (u := .int .i64 l) (kp.cell 1)
  have k2 := KeptW.cell (W0 := W0) (b := w.heap.size) (o := 2) (u := .int .i64 o) (kp.cell 2)
  have k3 := KeptW.cell (W0 := W0) (b := w.heap.size) (o := 3) (u := .int .i64 wt) (kp.cell 3)
  have k4 := KeptW.cell (W0 := W0) (b := w.heap.size) (o := 4) (u := .int .i64 on) (kp.cell 4)
  have k5 := KeptW.cell (W0 := W0) (b := w.heap.size) (o := 5) (u := .int .i64 v) (kp.cell 5)
  have k6 := KeptW.cell (W0 := W0) (b := w.heap.size) (o := 6) (u := .int .i64 t) (kp.cell 6)
  have l0 := KeptW.cell (W0 := W0) (b := w.heap.size + 1) (o := 0) (u := .int .i64 a) (kq.cell 0)
  have l1 := KeptW.cell (W0 := W0) (b := w.heap.size + 1) (o := 1) (u := .int .i64 b) (kq.cell 1)
  have l2 := KeptW.cell (W0 := W0) (b := w.heap.size + 1) (o := 2) (u := .int .i64 c) (kq.cell 2)
  have l3 := KeptW.cell (W0 := W0) (b := w.heap.size + 1) (o := 3) (u := .int .i64 d) (kq.cell 3)
  have l4 := KeptW.cell (W0 := W0) (b := w.heap.size + 1) (o := 4) (u := .int .i64 e) (kq.cell 4)
  have H := hide (⟨B3, by omega⟩ : Below w.heap.size w W0 ∧ w.heap.size ≤ W0.heap.size)
  have hp3 : w.heap.size + 1 < W0.heap.size := by omega
  have hp2 : w.heap.size < W0.heap.size := by omega
  clear B3 hs4 kp kq hs3
  refine kept_start ?_
  intro x
  cases x0
  · refine region_kept (by kernel_rfl) (by kernel_rfl) ?_
    repeat (go_big_quiet_step (first | (go_at_call 47; with_reducible exact kept_call (hc1.out _)) | (go_at_call 152; with_reducible exact kept_call (state_any s l o wt on v t _)) | (go_at_call 153; with_reducible exact kept_call (hc2.out _)) | (go_at_call 154; with_reducible exact kept_call (hc3.out rfl _)) | (go_at_call 155; with_reducible exact kept_call (hc4.out rfl _)) | (go_at_call 156; with_reducible exact kept_call (hc5.out rfl _)) | (go_at_call 91; with_reducible exact kept_same (hc6.out _)) | (go_at_call 91; with_reducible exact kept_same (hc7.out _))))
    refine wpQuiet_nil ?_
    rintro _ ⟨x, rfl⟩
    go_wp2
    go_ret
    exact ⟨rfl, H.out.1.trans (x.below.mono H.out.2)⟩
  cases x1
  · refine region_kept (by kernel_rfl) (by kernel_rfl) ?_
    repeat (go_big_quiet_step (first | (go_at_call 47; with_reducible exact kept_call (hc1.out _)) | (go_at_call 152; with_reducible exact kept_call (state_any s l o wt on v t _)) | (go_at_call 153; with_reducible exact kept_call (hc2.out _)) | (go_at_call 154; with_reducible exact kept_call (hc3.out rfl _)) | (go_at_call 155; with_reducible exact kept_call (hc4.out rfl _)) | (go_at_call 156; with_reducible exact kept_call (hc5.out rfl _)) | (go_at_call 91; with_reducible exact kept_same (hc6.out _)) | (go_at_call 91; with_reducible exact kept_same (hc7.out _))))
    refine wpQuiet_nil ?_
    rintro _ ⟨x, rfl⟩
    go_wp2
    go_ret
    exact ⟨rfl, H.out.1.trans (x.below.mono H.out.2)⟩
  cases x2
  · refine region_kept (by kernel_rfl) (by kernel_rfl) ?_
    repeat (go_big_quiet_step (first | (go_at_call 47; with_reducible exact kept_call (hc1.out _)) | (go_at_call 152; with_reducible exact kept_call (state_any s l o wt on v t _)) | (go_at_call 153; with_reducible exact kept_call (hc2.out _)) | (go_at_call 154; with_reducible exact kept_call (hc3.out rfl _)) | (go_at_call 155; with_reducible exact kept_call (hc4.out rfl _)) | (go_at_call 156; with_reducible exact kept_call (hc5.out rfl _)) | (go_at_call 91; with_reducible exact kept_same (hc6.out _)) | (go_at_call 91; with_reducible exact kept_same (hc7.out _))))
    refine wpQuiet_nil ?_
    rintro _ ⟨x, rfl⟩
    go_wp2
    go_ret
    exact ⟨rfl, H.out.1.trans (x.below.mono H.out.2)⟩
  cases x3
  · refine region_kept (by kernel_rfl) (by kernel_rfl) ?_
    repeat (go_big_quiet_step (first | (go_at_call 47; with_reducible exact kept_call (hc1.out _)) | (go_at_call 152; with_reducible exact kept_call (state_any s l o wt on v t _)) | (go_at_call 153; with_reducible exact kept_call (hc2.out _)) | (go_at_call 154; with_reducible exact kept_call (hc3.out rfl _)) | (go_at_call 155; with_reducible exact kept_call (hc4.out rfl _)) | (go_at_call 156; with_reducible exact kept_call (hc5.out rfl _)) | (go_at_call 91; with_reducible exact kept_same (hc6.out _)) | (go_at_call 91; with_reducible exact kept_same (hc7.out _))))
    refine wpQuiet_nil ?_
    rintro _ ⟨x, rfl⟩
    go_wp2
    go_ret
    exact ⟨rfl, H.out.1.trans (x.below.mono H.out.2)⟩
  cases x4
  · refine region_kept (by kernel_rfl) (by kernel_rfl) ?_
    repeat (go_big_quiet_step (first | (go_at_call 47; with_reducible exact kept_call (hc1.out _)) | (go_at_call 152; with_reducible exact kept_call (state_any s l o wt on v t _)) | (go_at_call 153; with_reducible exact kept_call (hc2.out _)) | (go_at_call 154; with_reducible exact kept_call (hc3.out rfl _)) | (go_at_call 155; with_reducible exact kept_call (hc4.out rfl _)) | (go_at_call 156; with_reducible exact kept_call (hc5.out rfl _)) | (go_at_call 91; with_reducible exact kept_same (hc6.out _)) | (go_at_call 91; with_reducible exact kept_same (hc7.out _))))
    refine wpQuiet_nil ?_
    rintro _ ⟨x, rfl⟩
    go_wp2
    go_ret
    exact ⟨rfl, H.out.1.trans (x.below.mono H.out.2)⟩
  cases x5
  · refine region_kept (by kernel_rfl) (by kernel_rfl) ?_
    repeat (go_big_quiet_step (first | (go_at_call 47; with_reducible exact kept_call (hc1.out _)) | (go_at_call 152; with_reducible exact kept_call (state_any s l o wt on v t _)) | (go_at_call 153; with_reducible exact kept_call (hc2.out _)) | (go_at_call 154; with_reducible exact kept_call (hc3.out rfl _)) | (go_at_call 155; with_reducible exact kept_call (hc4.out rfl _)) | (go_at_call 156; with_reducible exact kept_call (hc5.out rfl _)) | (go_at_call 91; with_reducible exact kept_same (hc6.out _)) | (go_at_call 91; with_reducible exact kept_same (hc7.out _))))
    refine wpQuiet_nil ?_
    rintro _ ⟨x, rfl⟩
    go_wp2
    go_ret
    exact ⟨rfl, H.out.1.trans (x.below.mono H.out.2)⟩
  · refine region_kept (by kernel_rfl) (by kernel_rfl) ?_
    repeat (go_big_quiet_step (first | (go_at_call 47; with_reducible exact kept_call (hc1.out _)) | (go_at_call 152; with_reducible exact kept_call (state_any s l o wt on v t _)) | (go_at_call 153; with_reducible exact kept_call (hc2.out _)) | (go_at_call 154; with_reducible exact kept_call (hc3.out rfl _)) | (go_at_call 155; with_reducible exact kept_call (hc4.out rfl _)) | (go_at_call 156; with_reducible exact kept_call (hc5.out rfl _)) | (go_at_call 91; with_reducible exact kept_same (hc6.out _)) | (go_at_call 91; with_reducible exact kept_same (hc7.out _))))
    refine wpQuiet_nil ?_
    rintro _ ⟨x, rfl⟩
    go_wp2
    go_ret
    exact ⟨rfl, H.out.1.trans (x.below.mono H.out.2)⟩

end Go.Proofs.Ytgbckcidmojnoaa
