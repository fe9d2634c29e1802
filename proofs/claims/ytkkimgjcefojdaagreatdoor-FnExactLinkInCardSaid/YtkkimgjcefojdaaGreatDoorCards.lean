/-
  DERIVED. GIVEN WITH THE SEED: THE CARDS: each row of YtkkimgjcefojdaaGreatDoorRows.lean that lists a variable, with what it lists TIED to the program's text (the seventh form; the later family's looks); each row that meets fmt, with fmt's text TOLD by the authors' own Lean function (tested against real Go, not proved from fmt's source: count such statements apart). THE CARD IS WHAT COUNTS. Prove the row's statement (the work); the ties are given (YtkkimgjcefojdaaGreatDoorTie.lean); close each card by the builder's one call (the guide's Derived/Test/ToyasCard.lean, 'card_holds'). Laid BY PROGRAM, IN A SANDBOX (cutbox-door.mjs). By AI agents, Wed Nov 11 2026. No macro, syntax, notation, axiom, sorry.
-/
import Derived.Test.YtkkimgjcefojdaaGreatDoorRows
import GoSem.ClaimSeven
namespace Go.Proofs.YtkkimgjcefojdaaGreatDoor
namespace Rows

/-- THE TIED CARD OF 'laws.FnLink'. -/
def fnLinkCard : Claim7 := { stood := { row := fnLinkRow, standIns := [], harness := (true, "7b67a2880804485c42fc5aacd172d2d239e7e5dc6faff98f7bbd09bd910a5cfd"), looks := true }, kinds := [], alts := [], laidByText := true, laidKinds := [.handle, .sentinel], laidTests := true, laidLooks := .later }
def FnLinkCardSaid : Prop := Claim7.holds Tryz.pinned (.plain (OpenSpec.ofChange fnLinkSpec)) fnLinkCard

/-- THE TIED CARD OF 'laws.FnLinkBack'. -/
def fnLinkBackCard : Claim7 := { stood := { row := fnLinkBackRow, standIns := [], harness := (true, "7b67a2880804485c42fc5aacd172d2d239e7e5dc6faff98f7bbd09bd910a5cfd"), looks := true }, kinds := [], alts := [], laidByText := true, laidKinds := [.handle, .sentinel], laidTests := true, laidLooks := .later }
def FnLinkBackCardSaid : Prop := Claim7.holds Tryz.pinned (.plain (OpenSpec.ofChange fnLinkBackSpec)) fnLinkBackCard

/-- THE TIED CARD OF 'laws.FnExactLinkIn'. -/
def fnExactLinkInCard : Claim7 := { stood := { row := fnExactLinkInRow, standIns := [], harness := (true, "7b67a2880804485c42fc5aacd172d2d239e7e5dc6faff98f7bbd09bd910a5cfd"), looks := true }, kinds := [], alts := [], laidByText := true, laidKinds := [.handle, .sentinel], laidTests := true, laidLooks := .later }
def FnExactLinkInCardSaid : Prop := Claim7.holds Tryz.pinned (.plain (OpenSpec.ofChange fnExactLinkInSpec)) fnExactLinkInCard

/-- THE SECOND FORM's CARD OF 'laws.FnLink'. -/
def fnLinkUptoCard : Claim7 := { stood := { row := fnLinkUptoRow, standIns := [], harness := (true, "7b67a2880804485c42fc5aacd172d2d239e7e5dc6faff98f7bbd09bd910a5cfd"), looks := true }, kinds := [], alts := [], laidByText := true, laidKinds := [.handle, .sentinel], laidTests := true, laidLooks := .later }
def FnLinkUptoCardSaid : Prop := Claim7.holds Tryz.pinned (.plain (OpenSpec.upto fnLinkSpec)) fnLinkUptoCard

/-- THE SECOND FORM's CARD OF 'laws.FnLinkBack'. -/
def fnLinkBackUptoCard : Claim7 := { stood := { row := fnLinkBackUptoRow, standIns := [], harness := (true, "7b67a2880804485c42fc5aacd172d2d239e7e5dc6faff98f7bbd09bd910a5cfd"), looks := true }, kinds := [], alts := [], laidByText := true, laidKinds := [.handle, .sentinel], laidTests := true, laidLooks := .later }
def FnLinkBackUptoCardSaid : Prop := Claim7.holds Tryz.pinned (.plain (OpenSpec.upto fnLinkBackSpec)) fnLinkBackUptoCard

/-- THE SECOND FORM's CARD OF 'laws.FnExactLinkIn'. -/
def fnExactLinkInUptoCard : Claim7 := { stood := { row := fnExactLinkInUptoRow, standIns := [], harness := (true, "7b67a2880804485c42fc5aacd172d2d239e7e5dc6faff98f7bbd09bd910a5cfd"), looks := true }, kinds := [], alts := [], laidByText := true, laidKinds := [.handle, .sentinel], laidTests := true, laidLooks := .later }
def FnExactLinkInUptoCardSaid : Prop := Claim7.holds Tryz.pinned (.plain (OpenSpec.upto fnExactLinkInSpec)) fnExactLinkInUptoCard
end Rows
end Go.Proofs.YtkkimgjcefojdaaGreatDoor
