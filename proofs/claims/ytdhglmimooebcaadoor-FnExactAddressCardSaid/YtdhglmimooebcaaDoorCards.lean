/-
  DERIVED. GIVEN WITH THE SEED: THE CARDS: each row of YtdhglmimooebcaaDoorRows.lean that lists a variable, with what it lists TIED to the program's text (the seventh form; the later family's looks); each row that meets fmt, with fmt's text TOLD by the authors' own Lean function (tested against real Go, not proved from fmt's source: count such statements apart). THE CARD IS WHAT COUNTS. Prove the row's statement (the work); the ties are given (YtdhglmimooebcaaDoorTie.lean); close each card by the builder's one call (the guide's Derived/Test/ToyasCard.lean, 'card_holds'). Laid BY PROGRAM, IN A SANDBOX (cutbox-door.mjs). By AI agents, Wed Nov 11 2026. No macro, syntax, notation, axiom, sorry.
-/
import Derived.Test.YtdhglmimooebcaaDoorRows
import GoSem.ClaimSeven
namespace Go.Proofs.YtdhglmimooebcaaDoor
namespace Rows

/-- THE TIED CARD OF 'laws.FnAddress'. -/
def fnAddressCard : Claim7 := { stood := { row := fnAddressRow, standIns := [], harness := (true, "1dc4ed74264ebb5c283d8055f10d8ef9e54e3e54779847bb31e3eafca95a0447"), looks := false }, kinds := [], alts := [], laidByText := true, laidKinds := [.data, .data, .data, .data, .pinned], laidTests := true, laidLooks := .later }
def FnAddressCardSaid : Prop := Claim7.holds Tryd.pinned (.plain (OpenSpec.ofChange fnAddressSpec)) fnAddressCard

/-- THE TIED CARD OF 'laws.FnExactAddress'. -/
def fnExactAddressCard : Claim7 := { stood := { row := fnExactAddressRow, standIns := [], harness := (true, "1dc4ed74264ebb5c283d8055f10d8ef9e54e3e54779847bb31e3eafca95a0447"), looks := false }, kinds := [], alts := [], laidByText := true, laidKinds := [.data, .pinned], laidTests := true, laidLooks := .later }
def FnExactAddressCardSaid : Prop := Claim7.holds Tryd.pinned (.plain (OpenSpec.ofChange fnExactAddressSpec)) fnExactAddressCard

/-- THE TIED CARD OF 'laws.FnExactAddressText'. -/
def fnExactAddressTextCard : Claim7 := { stood := { row := fnExactAddressTextRow, standIns := [], harness := (true, "1dc4ed74264ebb5c283d8055f10d8ef9e54e3e54779847bb31e3eafca95a0447"), looks := false }, kinds := [], alts := [], laidByText := true, laidKinds := [.data, .data, .data], laidTests := true, laidLooks := .later }
def FnExactAddressTextCardSaid : Prop := Claim7.holds Tryd.pinned (.plain (OpenSpec.ofChange fnExactAddressTextSpec)) fnExactAddressTextCard

/-- THE SECOND FORM's CARD OF 'laws.FnAddress'. -/
def fnAddressUptoCard : Claim7 := { stood := { row := fnAddressUptoRow, standIns := [], harness := (true, "1dc4ed74264ebb5c283d8055f10d8ef9e54e3e54779847bb31e3eafca95a0447"), looks := false }, kinds := [], alts := [], laidByText := true, laidKinds := [.data, .data, .data, .data, .pinned], laidTests := true, laidLooks := .later }
def FnAddressUptoCardSaid : Prop := Claim7.holds Tryd.pinned (.plain (OpenSpec.upto fnAddressSpec)) fnAddressUptoCard

/-- THE SECOND FORM's CARD OF 'laws.FnExactAddress'. -/
def fnExactAddressUptoCard : Claim7 := { stood := { row := fnExactAddressUptoRow, standIns := [], harness := (true, "1dc4ed74264ebb5c283d8055f10d8ef9e54e3e54779847bb31e3eafca95a0447"), looks := false }, kinds := [], alts := [], laidByText := true, laidKinds := [.data, .pinned], laidTests := true, laidLooks := .later }
def FnExactAddressUptoCardSaid : Prop := Claim7.holds Tryd.pinned (.plain (OpenSpec.upto fnExactAddressSpec)) fnExactAddressUptoCard

/-- THE SECOND FORM's CARD OF 'laws.FnExactAddressText'. -/
def fnExactAddressTextUptoCard : Claim7 := { stood := { row := fnExactAddressTextUptoRow, standIns := [], harness := (true, "1dc4ed74264ebb5c283d8055f10d8ef9e54e3e54779847bb31e3eafca95a0447"), looks := false }, kinds := [], alts := [], laidByText := true, laidKinds := [.data, .data, .data], laidTests := true, laidLooks := .later }
def FnExactAddressTextUptoCardSaid : Prop := Claim7.holds Tryd.pinned (.plain (OpenSpec.upto fnExactAddressTextSpec)) fnExactAddressTextUptoCard
end Rows
end Go.Proofs.YtdhglmimooebcaaDoor
