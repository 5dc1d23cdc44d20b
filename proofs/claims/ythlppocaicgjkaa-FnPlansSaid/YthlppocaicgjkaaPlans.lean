/- Chapter 1's law of plans: workers and levels are those of the plan, whatever the code. No condition. -/
import Derived.Test.YthlppocaicgjkaaPlan
import Derived.Test.YthlppocaicgjkaaDice
import Derived.Test.YthlppocaicgjkaaDrawPlan
import Derived.Deep.RegionHeld3
namespace Go.Proofs.Ythlppocaicgjkaa
open Go.RowKit

theorem gPlanOk_v (a b c d e : Int) (v : Bool) (h : planB a b c d e = v) (w : World) :
    Calls Try.prog 11 #[.agg #[.int .i64 a, .int .i64 b, .int .i64 c, .int .i64 d, .int .i64 e]] w fun r w' => r = .returned (.bool v) ∧ Below w.heap.size w w' := h ▸ gPlanOk_any a b c d e w
theorem gWorkerIn_v (a b c d e n : Int) (v : Bool) (h : workB a b c d e n = v) (w : World) :
    Calls Try.prog 12 #[.agg #[.int .i64 a, .int .i64 b, .int .i64 c, .int .i64 d, .int .i64 e], .int .i64 n] w fun r w' => r = .returned (.bool v) ∧ Below w.heap.size w w' := h ▸ gWorkerIn_any a b c d e n w
theorem gLevelIn_v (a b c d e n : Int) (v : Bool) (h : levelB a b c d e n = v) (w : World) :
    Calls Try.prog 13 #[.agg #[.int .i64 a, .int .i64 b, .int .i64 c, .int .i64 d, .int .i64 e], .int .i64 n] w fun r w' => r = .returned (.bool v) ∧ Below w.heap.size w w' := h ▸ gLevelIn_any a b c d e n w

/-- What the statement's calls leave of the world in which it began. -/
theorem keep0 (W0 : World) : Below W0.heap.size W0 W0.drew ∧ ∀ b o, b < W0.heap.size → W0.drew.cell? ⟨b, o, none⟩ = W0.cell? ⟨b, o, none⟩ :=
  ⟨(Below.refl _ _).drew, fun _ _ _ => rfl⟩
theorem keepS {W0 w w' : World} (h : Below W0.heap.size W0 w ∧ ∀ b o, b < W0.heap.size → w.cell? ⟨b, o, none⟩ = W0.cell? ⟨b, o, none⟩) (k : Below w.heap.size w w') :
    Below W0.heap.size W0 w' ∧ ∀ b o, b < W0.heap.size → w'.cell? ⟨b, o, none⟩ = W0.cell? ⟨b, o, none⟩ :=
  have hb := h.1.trans (k.mono h.1.size)
  ⟨hb, (bcell hb).1⟩

theorem keepEnd {B : Nat} {w W0 w' : World} (hb : Below B w W0 ∧ B ≤ W0.heap.size) (h : Below W0.heap.size W0 w' ∧ ∀ b o, b < W0.heap.size → w'.cell? ⟨b, o, none⟩ = W0.cell? ⟨b, o, none⟩) : Below B w w' :=
  hb.1.trans (h.1.mono hb.2)

set_option maxRecDepth 100000 in
set_option maxHeartbeats 4000000 in
theorem plans_any (w : World) (A : Option Addr) (len cap : Nat) (hby : Bytes w w.heap.size A len) :
    Calls Try.prog 3 #[.slice A len cap] w fun r w' => r = .returned (.bool true) ∧ Below w.heap.size w w' := by
  by_cases hl : len ≤ 4096
  · go_enter Try.func3, Try.ntmps3
    go_wp2_with fail
    go_call (big_any A len cap _) as r w' ⟨rfl, rfl⟩
    go_wp2_with fail
    go_call (roll_any w.heap.size w A len cap 2 (Nat.le_refl _) hl hby) as r w1 ⟨rfl, b1, d1⟩
    go_wp2_with fail
    go_call (scheme_any w.heap.size w1 w.heap.size A len cap d1) as r w2 ⟨a, b, c, d, e, rfl, a1, a2, e1, e2, c1, c2, p1, p2, q1, q2, g2, d2⟩
    have B2 := below_only b1 g2 (Nat.le_refl _) b1.size
    have hz2 := d2.lt
    clear g2 d1 b1
    go_wp2_with fail
    have hby2 : Bytes (w2.alloc (.cells #[.int .i64 a, .int .i64 b, .int .i64 c, .int .i64 d, .int .i64 e] 25)) w.heap.size A len := hby.keep fun k hk => (Below.heap_alloc w2 _ k (by omega)).trans (B2.block k hk)
    go_call (drawWorkerIn_any w.heap.size _ A len cap (by simp; omega) hl hby2) as r w3 ⟨x, y, z, u, v, n, rfl, hx, hy, hz, hu, hv, n1, n2, b3⟩
    go_wp2_with fail
    have hp : planB a b c d e = true := by simp [planB, btw]; omega
    have h0 : workB a b c d e 0 = true := by simp [workB, hp, btw]; omega
    have h1 : workB a b c d e (a - 1) = true := by simp [workB, hp, btw]; omega
    have h2 : workB a b c d e a = false := by simp [workB, hp, btw]; omega
    have h3 : workB a b c d e (-1) = false := by simp [workB, hp, btw]
    have h4 : levelB a b c d e (c - 1) = true := by simp [levelB, hp, btw]; omega
    have h5 : levelB a b c d e c = false := by simp [levelB, hp, btw]; omega
    have hs3 : w2.heap.size + 1 ≤ w3.heap.size := by have := b3.size; simpa using this
    have kp := ((Blk.new w2 25 #[.int .i64 a, .int .i64 b, .int .i64 c, .int .i64 d, .int .i64 e]).below b3 (by simp)).alloc (.cells #[.int .i64 x, .int .i64 y, .int .i64 z, .int .i64 u, .int .i64 v] 25)
    have kq := Blk.new w3 25 #[.int .i64 x, .int .i64 y, .int .i64 z, .int .i64 u, .int .i64 v]
    have B3 : Below w.heap.size w (w3.alloc (.cells #[.int .i64 x, .int .i64 y, .int .i64 z, .int .i64 u, .int .i64 v] 25)) := ((B2.alloc (by omega) _).trans (b3.mono (by simp; omega))).alloc (by omega) _
    have hs4 : (w3.alloc (.cells #[.int .i64 x, .int .i64 y, .int .i64 z, .int .i64 u, .int .i64 v] 25)).heap.size = w3.heap.size + 1 := by simp
    generalize w3.alloc (.cells #[.int .i64 x, .int .i64 y, .int .i64 z, .int .i64 u, .int .i64 v] 25) = W0 at kp kq B3 hs4
    have k0 : W0.cell? ⟨w2.heap.size, 0, none⟩ = some (.int .i64 a) := kp.cell 0
    have l0 : W0.cell? ⟨w3.heap.size, 0, none⟩ = some (.int .i64 x) := kq.cell 0
    have k1 : W0.cell? ⟨w2.heap.size, 1, none⟩ = some (.int .i64 b) := kp.cell 1
    have l1 : W0.cell? ⟨w3.heap.size, 1, none⟩ = some (.int .i64 y) := kq.cell 1
    have k2 : W0.cell? ⟨w2.heap.size, 2, none⟩ = some (.int .i64 c) := kp.cell 2
    have l2 : W0.cell? ⟨w3.heap.size, 2, none⟩ = some (.int .i64 z) := kq.cell 2
    have k3 : W0.cell? ⟨w2.heap.size, 3, none⟩ = some (.int .i64 d) := kp.cell 3
    have l3 : W0.cell? ⟨w3.heap.size, 3, none⟩ = some (.int .i64 u) := kq.cell 3
    have k4 : W0.cell? ⟨w2.heap.size, 4, none⟩ = some (.int .i64 e) := kp.cell 4
    have l4 : W0.cell? ⟨w3.heap.size, 4, none⟩ = some (.int .i64 v) := kq.cell 4
    have hp2 : w2.heap.size < W0.heap.size := by omega
    have hp3 : w3.heap.size < W0.heap.size := by omega
    have H := hide (⟨B3, by omega⟩ : Below w.heap.size w W0 ∧ w.heap.size ≤ W0.heap.size)
    clear B3 b3 hby2 B2 d2 hs4 hs3 kp kq e1 e2 p1 p2 q1 q2 hx hy hz hu hv n1 n2 hby
    have HH := hide (⟨hp, h0, h1, h2, h3, h4, h5⟩ : _ ∧ _ ∧ _ ∧ _ ∧ _ ∧ _ ∧ _)
    clear hp h0 h1 h2 h3 h4 h5
    have ea : IntKind.i64.wrap (a - 1) = a - 1 := IntWalk.i64_in _ (by omega)
    have ec : IntKind.i64.wrap (c - 1) = c - 1 := IntWalk.i64_in _ (by omega)
    dsimp only [List.append]
    go_region_held3 (fun w' => Below W0.heap.size W0 w' ∧ ∀ b o, b < W0.heap.size → w'.cell? ⟨b, o, none⟩ = W0.cell? ⟨b, o, none⟩) (first | exact keep0 _ | exact keepS (by assumption) (by assumption)) (first | (go_at_call 11; with_reducible refine (gPlanOk_v a b c d e true HH.out.1 _).mono ?_; rintro r w4 ⟨rfl, hb4⟩) | (go_at_call 11; with_reducible refine (gPlanOk_any x y z u v _).mono ?_; rintro r w4 ⟨rfl, hb4⟩) | (go_at_call 12; with_reducible refine (gWorkerIn_v a b c d e 0 true HH.out.2.1 _).mono ?_; rintro r w4 ⟨rfl, hb4⟩) | (go_at_call 12; with_reducible refine (gWorkerIn_v a b c d e (a - 1) true HH.out.2.2.1 _).mono ?_; rintro r w4 ⟨rfl, hb4⟩) | (go_at_call 12; with_reducible refine (gWorkerIn_v a b c d e a false HH.out.2.2.2.1 _).mono ?_; rintro r w4 ⟨rfl, hb4⟩) | (go_at_call 12; with_reducible refine (gWorkerIn_v a b c d e (-1) false HH.out.2.2.2.2.1 _).mono ?_; rintro r w4 ⟨rfl, hb4⟩) | (go_at_call 12; with_reducible refine (gWorkerIn_any x y z u v n _).mono ?_; rintro r w4 ⟨rfl, hb4⟩) | (go_at_call 13; with_reducible refine (gLevelIn_v a b c d e (c - 1) true HH.out.2.2.2.2.2.1 _).mono ?_; rintro r w4 ⟨rfl, hb4⟩) | (go_at_call 13; with_reducible refine (gLevelIn_v a b c d e c false HH.out.2.2.2.2.2.2 _).mono ?_; rintro r w4 ⟨rfl, hb4⟩) | (go_at_call 13; with_reducible refine (gLevelIn_any x y z u v n _).mono ?_; rintro r w4 ⟨rfl, hb4⟩) | (go_at_call 14; with_reducible refine (sPlanOk_any x y z u v _).mono ?_; rintro r w4 ⟨rfl, hb4⟩) | (go_at_call 15; with_reducible refine (sWorkerIn_any x y z u v n _).mono ?_; rintro r w4 ⟨rfl, hb4⟩) | (go_at_call 16; with_reducible refine (sLevelIn_any x y z u v n _).mono ?_; rintro r w4 ⟨rfl, hb4⟩))
    go_wp2
    go_ret
    refine ⟨?_, keepEnd H.out (by assumption)⟩
    rfl
  · go_enter Try.func3, Try.ntmps3
    go_wp2_with fail
    go_call (big_any A len cap _) as r w' ⟨rfl, rfl⟩
    go_wp2_with fail
    go_ret
    exact ⟨rfl, Below.refl _ _⟩
end Go.Proofs.Ythlppocaicgjkaa
