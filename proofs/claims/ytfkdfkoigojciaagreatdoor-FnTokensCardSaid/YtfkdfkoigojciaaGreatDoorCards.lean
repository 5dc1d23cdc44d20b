/-
  DERIVED. GIVEN WITH THE SEED: THE CARDS: each row of YtfkdfkoigojciaaGreatDoorRows.lean that lists a variable, with what it lists TIED to the program's text (the seventh form; the later family's looks); each row that meets fmt, with fmt's text TOLD by the authors' own Lean function (tested against real Go, not proved from fmt's source: count such statements apart). THE CARD IS WHAT COUNTS. Prove the row's statement (the work); the ties are given (YtfkdfkoigojciaaGreatDoorTie.lean); close each card by the builder's one call (the guide's Derived/Test/ToyasCard.lean, 'card_holds'). Laid BY PROGRAM, IN A SANDBOX (cutbox-door.mjs). By AI agents, Wed Nov 11 2026. No macro, syntax, notation, axiom, sorry.
-/
import Derived.Test.YtfkdfkoigojciaaGreatDoorRows
import GoSem.ClaimSeven
namespace Go.Proofs.YtfkdfkoigojciaaGreatDoor
namespace Rows

/-- THE TIED CARD OF 'laws.FnJoin'. -/
def fnJoinCard : Claim7 := { stood := { row := fnJoinRow, standIns := [], harness := (true, "1ddc111ef434dc21be07b22c5137ff3ee3e2ba71598e119af0cae3a308b5c8b5"), looks := true }, kinds := [], alts := [], laidByText := true, laidKinds := [.handle], laidTests := true, laidLooks := .later }
def FnJoinCardSaid : Prop := Claim7.holds Tryz.pinned (.plain (OpenSpec.ofChange fnJoinSpec)) fnJoinCard

/-- THE TIED CARD OF 'laws.FnLevels'. -/
def fnLevelsCard : Claim7 := { stood := { row := fnLevelsRow, standIns := [], harness := (true, "1ddc111ef434dc21be07b22c5137ff3ee3e2ba71598e119af0cae3a308b5c8b5"), looks := true }, kinds := [], alts := [], laidByText := true, laidKinds := [.handle], laidTests := true, laidLooks := .later }
def FnLevelsCardSaid : Prop := Claim7.holds Tryz.pinned (.plain (OpenSpec.ofChange fnLevelsSpec)) fnLevelsCard

/-- THE TIED CARD OF 'laws.FnTokens'. -/
def fnTokensCard : Claim7 := { stood := { row := fnTokensRow, standIns := [], harness := (true, "1ddc111ef434dc21be07b22c5137ff3ee3e2ba71598e119af0cae3a308b5c8b5"), looks := true }, kinds := [], alts := [], laidByText := true, laidKinds := [.handle], laidTests := true, laidLooks := .later }
def FnTokensCardSaid : Prop := Claim7.holds Tryz.pinned (.plain (OpenSpec.ofChange fnTokensSpec)) fnTokensCard

/-- THE TIED CARD OF 'laws.FnExactJoined'. -/
def fnExactJoinedCard : Claim7 := { stood := { row := fnExactJoinedRow, standIns := [], harness := (true, "1ddc111ef434dc21be07b22c5137ff3ee3e2ba71598e119af0cae3a308b5c8b5"), looks := true }, kinds := [], alts := [], laidByText := true, laidKinds := [.handle], laidTests := true, laidLooks := .later }
def FnExactJoinedCardSaid : Prop := Claim7.holds Tryz.pinned (.plain (OpenSpec.ofChange fnExactJoinedSpec)) fnExactJoinedCard

/-- THE TIED CARD OF 'laws.FnExactCancelledBy'. -/
def fnExactCancelledByCard : Claim7 := { stood := { row := fnExactCancelledByRow, standIns := [], harness := (true, "1ddc111ef434dc21be07b22c5137ff3ee3e2ba71598e119af0cae3a308b5c8b5"), looks := true }, kinds := [], alts := [], laidByText := true, laidKinds := [.handle], laidTests := true, laidLooks := .later }
def FnExactCancelledByCardSaid : Prop := Claim7.holds Tryz.pinned (.plain (OpenSpec.ofChange fnExactCancelledBySpec)) fnExactCancelledByCard

/-- THE TIED CARD OF 'laws.FnExactLeveled'. -/
def fnExactLeveledCard : Claim7 := { stood := { row := fnExactLeveledRow, standIns := [], harness := (true, "1ddc111ef434dc21be07b22c5137ff3ee3e2ba71598e119af0cae3a308b5c8b5"), looks := true }, kinds := [], alts := [], laidByText := true, laidKinds := [.handle], laidTests := true, laidLooks := .later }
def FnExactLeveledCardSaid : Prop := Claim7.holds Tryz.pinned (.plain (OpenSpec.ofChange fnExactLeveledSpec)) fnExactLeveledCard

/-- THE TIED CARD OF 'laws.FnExactUpped'. -/
def fnExactUppedCard : Claim7 := { stood := { row := fnExactUppedRow, standIns := [], harness := (true, "1ddc111ef434dc21be07b22c5137ff3ee3e2ba71598e119af0cae3a308b5c8b5"), looks := true }, kinds := [], alts := [], laidByText := true, laidKinds := [.handle], laidTests := true, laidLooks := .later }
def FnExactUppedCardSaid : Prop := Claim7.holds Tryz.pinned (.plain (OpenSpec.ofChange fnExactUppedSpec)) fnExactUppedCard

/-- THE TIED CARD OF 'laws.FnExactDowned'. -/
def fnExactDownedCard : Claim7 := { stood := { row := fnExactDownedRow, standIns := [], harness := (true, "1ddc111ef434dc21be07b22c5137ff3ee3e2ba71598e119af0cae3a308b5c8b5"), looks := true }, kinds := [], alts := [], laidByText := true, laidKinds := [.handle], laidTests := true, laidLooks := .later }
def FnExactDownedCardSaid : Prop := Claim7.holds Tryz.pinned (.plain (OpenSpec.ofChange fnExactDownedSpec)) fnExactDownedCard

/-- THE SECOND FORM's CARD OF 'laws.FnJoin'. -/
def fnJoinUptoCard : Claim7 := { stood := { row := fnJoinUptoRow, standIns := [], harness := (true, "1ddc111ef434dc21be07b22c5137ff3ee3e2ba71598e119af0cae3a308b5c8b5"), looks := true }, kinds := [], alts := [], laidByText := true, laidKinds := [.handle], laidTests := true, laidLooks := .later }
def FnJoinUptoCardSaid : Prop := Claim7.holds Tryz.pinned (.plain (OpenSpec.upto fnJoinSpec)) fnJoinUptoCard

/-- THE SECOND FORM's CARD OF 'laws.FnLevels'. -/
def fnLevelsUptoCard : Claim7 := { stood := { row := fnLevelsUptoRow, standIns := [], harness := (true, "1ddc111ef434dc21be07b22c5137ff3ee3e2ba71598e119af0cae3a308b5c8b5"), looks := true }, kinds := [], alts := [], laidByText := true, laidKinds := [.handle], laidTests := true, laidLooks := .later }
def FnLevelsUptoCardSaid : Prop := Claim7.holds Tryz.pinned (.plain (OpenSpec.upto fnLevelsSpec)) fnLevelsUptoCard

/-- THE SECOND FORM's CARD OF 'laws.FnTokens'. -/
def fnTokensUptoCard : Claim7 := { stood := { row := fnTokensUptoRow, standIns := [], harness := (true, "1ddc111ef434dc21be07b22c5137ff3ee3e2ba71598e119af0cae3a308b5c8b5"), looks := true }, kinds := [], alts := [], laidByText := true, laidKinds := [.handle], laidTests := true, laidLooks := .later }
def FnTokensUptoCardSaid : Prop := Claim7.holds Tryz.pinned (.plain (OpenSpec.upto fnTokensSpec)) fnTokensUptoCard

/-- THE SECOND FORM's CARD OF 'laws.FnExactJoined'. -/
def fnExactJoinedUptoCard : Claim7 := { stood := { row := fnExactJoinedUptoRow, standIns := [], harness := (true, "1ddc111ef434dc21be07b22c5137ff3ee3e2ba71598e119af0cae3a308b5c8b5"), looks := true }, kinds := [], alts := [], laidByText := true, laidKinds := [.handle], laidTests := true, laidLooks := .later }
def FnExactJoinedUptoCardSaid : Prop := Claim7.holds Tryz.pinned (.plain (OpenSpec.upto fnExactJoinedSpec)) fnExactJoinedUptoCard

/-- THE SECOND FORM's CARD OF 'laws.FnExactCancelledBy'. -/
def fnExactCancelledByUptoCard : Claim7 := { stood := { row := fnExactCancelledByUptoRow, standIns := [], harness := (true, "1ddc111ef434dc21be07b22c5137ff3ee3e2ba71598e119af0cae3a308b5c8b5"), looks := true }, kinds := [], alts := [], laidByText := true, laidKinds := [.handle], laidTests := true, laidLooks := .later }
def FnExactCancelledByUptoCardSaid : Prop := Claim7.holds Tryz.pinned (.plain (OpenSpec.upto fnExactCancelledBySpec)) fnExactCancelledByUptoCard

/-- THE SECOND FORM's CARD OF 'laws.FnExactLeveled'. -/
def fnExactLeveledUptoCard : Claim7 := { stood := { row := fnExactLeveledUptoRow, standIns := [], harness := (true, "1ddc111ef434dc21be07b22c5137ff3ee3e2ba71598e119af0cae3a308b5c8b5"), looks := true }, kinds := [], alts := [], laidByText := true, laidKinds := [.handle], laidTests := true, laidLooks := .later }
def FnExactLeveledUptoCardSaid : Prop := Claim7.holds Tryz.pinned (.plain (OpenSpec.upto fnExactLeveledSpec)) fnExactLeveledUptoCard

/-- THE SECOND FORM's CARD OF 'laws.FnExactUpped'. -/
def fnExactUppedUptoCard : Claim7 := { stood := { row := fnExactUppedUptoRow, standIns := [], harness := (true, "1ddc111ef434dc21be07b22c5137ff3ee3e2ba71598e119af0cae3a308b5c8b5"), looks := true }, kinds := [], alts := [], laidByText := true, laidKinds := [.handle], laidTests := true, laidLooks := .later }
def FnExactUppedUptoCardSaid : Prop := Claim7.holds Tryz.pinned (.plain (OpenSpec.upto fnExactUppedSpec)) fnExactUppedUptoCard

/-- THE SECOND FORM's CARD OF 'laws.FnExactDowned'. -/
def fnExactDownedUptoCard : Claim7 := { stood := { row := fnExactDownedUptoRow, standIns := [], harness := (true, "1ddc111ef434dc21be07b22c5137ff3ee3e2ba71598e119af0cae3a308b5c8b5"), looks := true }, kinds := [], alts := [], laidByText := true, laidKinds := [.handle], laidTests := true, laidLooks := .later }
def FnExactDownedUptoCardSaid : Prop := Claim7.holds Tryz.pinned (.plain (OpenSpec.upto fnExactDownedSpec)) fnExactDownedUptoCard
end Rows
end Go.Proofs.YtfkdfkoigojciaaGreatDoor
