/- Regions that draw their order, whose operations only read and whose callees write into nothing that was there (they may make memory): one walk in the order of the text serves every order. No condition. -/
import Derived.Test.YtgbckcidmojnoaaWords
import Derived.Deep.Quiet
import Derived.Deep.QuietTactic
import Derived.BigQuiet
namespace Go.Proofs.Ytgbckcidmojnoaa
open Go.RowKit

/-- A world that has all that was in W0, as it was. -/
def KeptW (W0 : World) : Type := { w : World // Below W0.heap.size W0 w }
def KeptW.w {W0 : World} (x : KeptW W0) : World := x.1
theorem KeptW.below {W0 : World} (x : KeptW W0) : Below W0.heap.size W0 x.w := x.2
def KeptW.mk' {W0 w : World} (h : Below W0.heap.size W0 w) : KeptW W0 := ⟨w, h⟩
theorem KeptW.mk'_w {W0 w : World} (h : Below W0.heap.size W0 w) : (KeptW.mk' h).w = w := rfl
instance (W0 : World) : Nonempty (KeptW W0) := ⟨KeptW.mk' (Below.refl _ _)⟩
theorem KeptW.cell {W0 : World} {b o : Nat} {u : Value} (h : W0.cell? ⟨b, o, none⟩ = some u) (x : KeptW W0) : x.w.cell? ⟨b, o, none⟩ = some u :=
  (x.below.cell (p := ⟨b, o, none⟩) (World.block_lt_of_cell? W0 _ h)).trans h

theorem kept_call {P : Program} {f : FuncId} {args : Array Value} {W0 : World} {x : KeptW W0} {v : Value}
    (h : Calls P f args x.w fun e w' => e = .returned v ∧ Below x.w.heap.size x.w w') : Calls P f args x.w fun e w'' => e = .returned v ∧ ∃ y : KeptW W0, w'' = y.w :=
  h.mono fun _ _ ⟨he, hb⟩ => ⟨he, KeptW.mk' (x.below.trans (hb.mono x.below.size)), rfl⟩
theorem kept_same {P : Program} {f : FuncId} {args : Array Value} {W0 : World} {x : KeptW W0} {v : Value}
    (h : Calls P f args x.w fun e w' => e = .returned v ∧ x.w = w') : Calls P f args x.w fun e w'' => e = .returned v ∧ ∃ y : KeptW W0, w'' = y.w :=
  h.mono fun _ _ ⟨he, hb⟩ => ⟨he, x, hb.symm⟩

theorem kept_start {R : World → Prop} {W0 : World} (h : ∀ x : KeptW W0, R x.w) : R W0 := h (KeptW.mk' (Below.refl _ _))
theorem region_kept {P : Program} {id : Nat} {Q : Exit → Act → World → Prop} {a : Act} {W0 : World} {x : KeptW W0} {l : List Oper} (hm : P.follows .mixedOrders = true) (hB : Region.lexB .any l.toArray = true)
    (h : wpQuiet P l.toArray (fun w' => ∃ x : KeptW W0, w' = x.w) (fun a' => ∀ w', (∃ x : KeptW W0, w' = x.w) → Q .normal a' w') l a) : (Code.region id l.toArray true).wp P Q a x.w :=
  wp_region_quiet (C := fun w' => ∃ x : KeptW W0, w' = x.w) hm hB ⟨KeptW.mk' x.below.drew, rfl⟩ (by simpa using h)
end Go.Proofs.Ytgbckcidmojnoaa
