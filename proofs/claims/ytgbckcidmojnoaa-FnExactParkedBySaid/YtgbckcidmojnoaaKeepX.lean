/- What the worlds of a drawn region keep, where its callees make memory only. No condition. -/
import Derived.Test.YtgbckcidmojnoaaSepX
namespace Go.Proofs.Ytgbckcidmojnoaa
open Go.RowKit
set_option linter.unusedVariables false

theorem keptB {W w' : World} (h : Below W.heap.size W w' ∧ ∀ b o, b < W.heap.size → w'.cell? ⟨b, o, none⟩ = W.cell? ⟨b, o, none⟩) : Below W.heap.size W w' := h.1
theorem inS {W0 w : World} {q : Prop} {ts : List T7} {ks : List Int} {fs : List F2} {A0 A1 A2 : Option Addr} (h : InPool W0 ts ks fs A0 A1 A2) (k : Below W0.heap.size W0 w ∧ q) : InPool w ts ks fs A0 A1 A2 := h.below k.1
theorem keep0' (W0 : World) : Below W0.heap.size W0 W0.drew ∧ ∀ b o, b < W0.heap.size → W0.drew.cell? ⟨b, o, none⟩ = W0.cell? ⟨b, o, none⟩ :=
  ⟨(Below.refl _ _).drew, fun _ _ _ => rfl⟩
theorem keepS' {W0 w w' : World} (h : Below W0.heap.size W0 w ∧ ∀ b o, b < W0.heap.size → w.cell? ⟨b, o, none⟩ = W0.cell? ⟨b, o, none⟩) (k : Below w.heap.size w w') :
    Below W0.heap.size W0 w' ∧ ∀ b o, b < W0.heap.size → w'.cell? ⟨b, o, none⟩ = W0.cell? ⟨b, o, none⟩ :=
  have hb := h.1.trans (k.mono h.1.size)
  ⟨hb, (bcell hb).1⟩
end Go.Proofs.Ytgbckcidmojnoaa
