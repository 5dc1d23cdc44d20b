/- Drawn regions by RegT: one of several operations that may come up. No condition. -/
import Derived.Test.YtgbckcidmojnoaaRegT
namespace Go.Proofs.Ytgbckcidmojnoaa
open Go.RowKit
set_option linter.unusedVariables false

theorem AllReadyT.consS {P : Program} {Q : Exit → Act → World → Prop} {md : Region.Mode} {S : World → Prop} {ks : List Nat} {l : List Oper} {fuel : Nat} {listed : Array Bool} {a : Act} {w : World} {i : Nat} {o : Oper} {rs : List Nat} (ho : l[i]? = some o)
    (h : ∀ K' : Act → World → Prop, Shut (∀ a w, S w → (S w → wpAnyT P md l.toArray Q S ks fuel (listed.setIfInBounds i true) a w) → K' a w) → if Region.wanted o (yielded l.toArray a.tmps) = true then Oper.wp P o a w K' Q else K' (a.put o.dst undef) w)
    (hs : AllReadyT P md l.toArray Q S ks fuel listed a w rs) : AllReadyT P md l.toArray Q S ks fuel listed a w (i :: rs) :=
  AllReadyT.cons (by simpa using ho) (fun K' hK => h K' (fun a w hS hW => hK.out a w (fun _ => hS) (fun _ => hW hS))) hs
end Go.Proofs.Ytgbckcidmojnoaa
