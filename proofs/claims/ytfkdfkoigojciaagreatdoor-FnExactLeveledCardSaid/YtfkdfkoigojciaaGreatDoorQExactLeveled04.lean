/- Leveled answers as its model at every plan, pool and numbers, every field, its answer is its own memory, and it writes into nothing that was there. The variable errors.errorType as the program's text lays it (the card ties it). -/
import Derived.Test.YtfkdfkoigojciaaGreatDoorQB15
import Derived.Test.YtfkdfkoigojciaaGreatDoorQExactLeveled03
import Derived.Test.YtfkdfkoigojciaaGreatDoorCards
import Derived.Test.YtfkdfkoigojciaaGreatDoorTie
import Derived.SevenTiedAt

namespace Go.Proofs.YtfkdfkoigojciaaGreatDoor
open Go.RowKit
set_option linter.unusedVariables false
open Go.ChangeShapes Go.WideShapes Go.ChangeAt Go.RowKit Go.Joins Go.Deep
set_option maxRecDepth 100000 in
theorem fnExactLeveled_lifted (os : Os) (started : os.Started) (H : Type) (enc : TypeId × Value → H) :
 ReturnsInHanded {} Tryz.checked os 8 .any (fun w args => (Rows.fnExactLeveledSpec.pre enc Tryz.prog Tryz.f8 [] false w args ∧ laidMetH Tryz.prog Rows.fnExactLeveledRow.laid w) ∧ sizedMet enc Tryz.prog Tryz.f8 (OpenSpec.ofChange Rows.fnExactLeveledSpec) false w args)
  (Rows.fnExactLeveledSpec.post enc Tryz.prog Tryz.f8 false true false false) := by
 refine returnsInHanded_of_change_and (C := Tryz.checked) (X := fun w _ => laidMetH Tryz.prog Rows.fnExactLeveledRow.laid w) (fun _ _ _ hh h => h.of_heap hh) own started (by kernel_rfl) Tryz.func8
  (ChangeSpec.witness_at (enc := enc) (C := Tryz.checked) (os := os) (X := fun w _ => laidMetH Tryz.prog Rows.fnExactLeveledRow.laid w) false (laidWorld os) #[.agg #[.int .i64 0, .int .i64 0, .int .i64 0, .int .i64 0, .int .i64 0], .agg #[.slice none 0 0, .slice none 0 0, .slice none 0 0, .int .i64 0, .bool false], .int .i64 0, .int .i64 0, .int .i64 0] 8 rfl (by kernel_rfl) (by kernel_rfl) (by kernel_rfl) (by kernel_rfl) (by kernel_rfl) (laidWorld_met os _)) ?_
 intro W base args ds gs before hval0 hW _ _ hL _
 have hg : Laid W := laid_of hL
 have hval : ∀ (j : Nat) t v, Tryz.f8.params[j]? = some t → args[j]? = some v → Value.okWide Tryz.prog W .any base t v := hval0
 have hW' := hW
 obtain ⟨p, q, hA0, hV, rfl, hfz, hnd⟩ := hW
 have hA : DataW.TrodAll enc Tryz.prog W 0 (fun _ => true) true Tryz.f8.params.toList args.toList ds p := hA0
 rw [Tryz.params8] at hA hval
 obtain ⟨v0, vs0, d0, ds0, p0, q0, hargs, rfl, rfl, h0, r0⟩ := trodAll_cons hA
 obtain ⟨v1, vs1, d1, ds1, p1, q1, rfl, rfl, rfl, h1, r1⟩ := trodAll_cons r0
 obtain ⟨v2, vs2, d2, ds2, p2, q2, rfl, rfl, rfl, h2, r2⟩ := trodAll_cons r1
 obtain ⟨v3, vs3, d3, ds3, p3, q3, rfl, rfl, rfl, h3, r3⟩ := trodAll_cons r2
 obtain ⟨v4, vs4, d4, ds4, p4, q4, rfl, rfl, rfl, h4, r4⟩ := trodAll_cons r3
 obtain ⟨rfl, rfl, rfl⟩ := trodAll_nil r4
 obtain rfl : args = #[v0, v1, v2, v3, v4] := by cases args; simp_all
 obtain ⟨rfl, rfl⟩ := trodVars_none hV
 have k0 := h0
 have lt0 : ∀ x ∈ p0, x.block < W.heap.size := by obtain ⟨m, hm⟩ := k0; exact DataW.trod_lt m _ _ _ hm
 have k1 := h1
 have lt1 : ∀ x ∈ p1, x.block < W.heap.size := by obtain ⟨m, hm⟩ := k1; exact DataW.trod_lt m _ _ _ hm
 have k2 := h2
 have lt2 : ∀ x ∈ p2, x.block < W.heap.size := by obtain ⟨m, hm⟩ := k2; exact DataW.trod_lt m _ _ _ hm
 have k3 := h3
 have lt3 : ∀ x ∈ p3, x.block < W.heap.size := by obtain ⟨m, hm⟩ := k3; exact DataW.trod_lt m _ _ _ hm
 have k4 := h4
 have lt4 : ∀ x ∈ p4, x.block < W.heap.size := by obtain ⟨m, hm⟩ := k4; exact DataW.trod_lt m _ _ _ hm
 obtain ⟨a00, a01, a02, a03, a04, rfl, _⟩ := ints5 Tryz.underlying55 (by kernel_rfl) (by kernel_rfl : Tryz.prog.cellsOf 55 = 5) Tryz.underlying2 rfl rfl rfl rfl rfl (hval 0 55 v0 rfl rfl) h0
 obtain ⟨ts1, ks1, fs1, A10, A11, A12, c10, c11, c12, tn1, st1, rfl, in1, l10, l11, l12, w1⟩ := open_pool (hval 1 59 v1 rfl rfl) h1
 obtain ⟨a2, rfl, _, _, w2⟩ := open_int Tryz.underlying2 (hval 2 2 v2 rfl rfl) h2
 obtain ⟨a3, rfl, _, _, w3⟩ := open_int Tryz.underlying2 (hval 3 2 v3 rfl rfl) h3
 obtain ⟨a4, rfl, _, _, w4⟩ := open_int Tryz.underlying2 (hval 4 2 v4 rfl rfl) h4
 clear hA0 hval0
 refine (xLeveled_any a00 a01 a02 a03 a04 ts1 ks1 fs1 A10 A11 A12 c10 c11 c12 tn1 st1 a2 a3 a4 W l10 l11 l12 in1 hg).mono fun e W' ⟨he, bel⟩ => ?_
 subst he
 exact ⟨_, rfl, _, _, _, [], _, [], hW', trodAll_mk1 (shut_bool Tryz.underlying4 _), (trodAll_cons_mk (Below.trod laidOut (by kernel_rfl) (of_decide_eq_true (by kernel_rfl)) k0 bel lt0) (trodAll_cons_mk (Below.trod laidOut (by kernel_rfl) (of_decide_eq_true (by kernel_rfl)) k1 bel lt1) (trodAll_cons_mk (Below.trod laidOut (by kernel_rfl) (of_decide_eq_true (by kernel_rfl)) k2 bel lt2) (trodAll_cons_mk (Below.trod laidOut (by kernel_rfl) (of_decide_eq_true (by kernel_rfl)) k3 bel lt3) (trodAll_cons_mk (Below.trod laidOut (by kernel_rfl) (of_decide_eq_true (by kernel_rfl)) k4 bel lt4) trodAll_mk0))))), rfl, bel.frame _, fun h => by cases h⟩
theorem fnExactLeveled_row : Rows.FnExactLeveledSaid :=
 OpenClaim.holds_of_wide 8 Tryz.f8 rfl rfl rfl rfl rfl rfl rfl ⟨rfl, rfl, rfl, rfl, rfl⟩ rfl rfl rfl rfl rfl (by kernel_rfl) Tryz.func8 (by kernel_rfl)
  (of_decide_eq_true (by kernel_rfl)) (by unfold Func.isWrapper; first | (rw [if_pos (by decide +kernel)]; kernel_rfl) | (rw [if_neg (by decide +kernel)]; exact ⟨rfl, rfl⟩))
  (fun os started H enc _ => fnExactLeveled_lifted os started H enc)
theorem fnExactLeveled_holds : Rows.FnExactLeveledCardSaid :=
 Claim7.holds_tied_plain_at .later [] [.handle] true (true, "1ddc111ef434dc21be07b22c5137ff3ee3e2ba71598e119af0cae3a308b5c8b5") true
  fnExactLeveled_row (fun _ h => by cases h) (by kernel_rfl) (fun _ h => by cases h) fnExactLeveled_row_tie rfl ⟨rfl, rfl⟩ (by kernel_rfl) rfl
  (fun f fn hf hfn => by
   obtain rfl : f = 8 := Option.some.inj ((show Tryz.prog.funcNamed "loop.example/g00706/laws.FnExactLeveled" = some 8 by kernel_rfl).symm.trans hf) |>.symm
   obtain rfl : fn = Tryz.f8 := (Option.some.inj (Tryz.func8.symm.trans hfn)).symm
   exact ⟨by kernel_rfl, fun j t ht => by
    rw [Tryz.params8] at ht
    have hm : t ∈ ([55, 59, 2, 2, 2] : List TypeId) := List.mem_of_getElem? (show [55, 59, 2, 2, 2][j]? = some t by simpa using ht)
    have hm2 := hm
    rcases (show t = 55 ∨ t = 59 ∨ t = 2 ∨ t = 2 ∨ t = 2 by simpa using hm2) with rfl | rfl | rfl | rfl | rfl
    ·exact (show Tryz.prog.wantsStandIn 55 = false by kernel_rfl)
    ·exact (show Tryz.prog.wantsStandIn 59 = false by kernel_rfl)
    ·exact (show Tryz.prog.wantsStandIn 2 = false by kernel_rfl)
    ·exact (show Tryz.prog.wantsStandIn 2 = false by kernel_rfl)
    ·exact (show Tryz.prog.wantsStandIn 2 = false by kernel_rfl)⟩)
  (by kernel_rfl)
#print axioms fnExactLeveled_holds
end Go.Proofs.YtfkdfkoigojciaaGreatDoor
