/-
  DERIVED. GIVEN WITH THE SEED: THE CARDS: each row of YtedndifhnmhgpaaDoorRows.lean that lists a variable, with what it lists TIED to the program's text (the seventh form; the later family's looks); each row that meets fmt, with fmt's text TOLD by the authors' own Lean function (tested against real Go, not proved from fmt's source: count such statements apart). THE CARD IS WHAT COUNTS. Prove the row's statement (the work); the ties are given (YtedndifhnmhgpaaDoorTie.lean); close each card by the builder's one call (the guide's Derived/Test/ToyasCard.lean, 'card_holds'). Laid BY PROGRAM, IN A SANDBOX (cutbox-door.mjs). By AI agents, Wed Nov 11 2026. No macro, syntax, notation, axiom, sorry.
-/
import Derived.Test.YtedndifhnmhgpaaDoorRows
import GoSem.ClaimSeven
namespace Go.Proofs.YtedndifhnmhgpaaDoor
namespace Rows

/-- THE TIED CARD OF 'laws.FnPacket'. -/
def fnPacketCard : Claim7 := { stood := { row := fnPacketRow, standIns := [], harness := (true, "6636e2859afa5243bb5d3e1edfb1797d545c4e05478ba18afd9f32e618507f06"), looks := true }, kinds := [], alts := [], laidByText := true, laidKinds := [.handle], laidTests := true, laidLooks := .later }
def FnPacketCardSaid : Prop := Claim7.holds Tryd.pinned (.plain (OpenSpec.ofChange fnPacketSpec)) fnPacketCard

/-- THE TIED CARD OF 'laws.FnPacketRead'. -/
def fnPacketReadCard : Claim7 := { stood := { row := fnPacketReadRow, standIns := [], harness := (true, "6636e2859afa5243bb5d3e1edfb1797d545c4e05478ba18afd9f32e618507f06"), looks := true }, kinds := [], alts := [], laidByText := true, laidKinds := [.handle], laidTests := true, laidLooks := .later }
def FnPacketReadCardSaid : Prop := Claim7.holds Tryd.pinned (.plain (OpenSpec.ofChange fnPacketReadSpec)) fnPacketReadCard

/-- THE TIED CARD OF 'laws.FnExactReadPacket'. -/
def fnExactReadPacketCard : Claim7 := { stood := { row := fnExactReadPacketRow, standIns := [], harness := (true, "6636e2859afa5243bb5d3e1edfb1797d545c4e05478ba18afd9f32e618507f06"), looks := true }, kinds := [], alts := [], laidByText := true, laidKinds := [.handle], laidTests := true, laidLooks := .later }
def FnExactReadPacketCardSaid : Prop := Claim7.holds Tryd.pinned (.plain (OpenSpec.ofChange fnExactReadPacketSpec)) fnExactReadPacketCard

/-- THE SECOND FORM's CARD OF 'laws.FnPacket'. -/
def fnPacketUptoCard : Claim7 := { stood := { row := fnPacketUptoRow, standIns := [], harness := (true, "6636e2859afa5243bb5d3e1edfb1797d545c4e05478ba18afd9f32e618507f06"), looks := true }, kinds := [], alts := [], laidByText := true, laidKinds := [.handle], laidTests := true, laidLooks := .later }
def FnPacketUptoCardSaid : Prop := Claim7.holds Tryd.pinned (.plain (OpenSpec.upto fnPacketSpec)) fnPacketUptoCard

/-- THE SECOND FORM's CARD OF 'laws.FnPacketRead'. -/
def fnPacketReadUptoCard : Claim7 := { stood := { row := fnPacketReadUptoRow, standIns := [], harness := (true, "6636e2859afa5243bb5d3e1edfb1797d545c4e05478ba18afd9f32e618507f06"), looks := true }, kinds := [], alts := [], laidByText := true, laidKinds := [.handle], laidTests := true, laidLooks := .later }
def FnPacketReadUptoCardSaid : Prop := Claim7.holds Tryd.pinned (.plain (OpenSpec.upto fnPacketReadSpec)) fnPacketReadUptoCard

/-- THE SECOND FORM's CARD OF 'laws.FnExactReadPacket'. -/
def fnExactReadPacketUptoCard : Claim7 := { stood := { row := fnExactReadPacketUptoRow, standIns := [], harness := (true, "6636e2859afa5243bb5d3e1edfb1797d545c4e05478ba18afd9f32e618507f06"), looks := true }, kinds := [], alts := [], laidByText := true, laidKinds := [.handle], laidTests := true, laidLooks := .later }
def FnExactReadPacketUptoCardSaid : Prop := Claim7.holds Tryd.pinned (.plain (OpenSpec.upto fnExactReadPacketSpec)) fnExactReadPacketUptoCard
end Rows
end Go.Proofs.YtedndifhnmhgpaaDoor
