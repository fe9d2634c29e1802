/-
  No cell of these rows narrows 'for every input' (looked for: loops, veiled, ifaces, maps, wideKeys, modest, calm, conditions, laid).
  DERIVED. THE GIVEN ROWS OF THIS SEAT. 6 by the template 'for every input the law returns true; each argument reads behind the call as it read before'; 0 by the template 'total and deterministic' (their statements: YtkmflfmbmmpohaaTotals.lean).
  GIVEN WITH THE SEED: the statements are not yours to turn. If you find one false, say at which input.
  Laid BY PROGRAM, IN A SANDBOX (cutbox-rows.mjs): the forced cells as the released guide's own fill.sh prints them over the translation 341a47cc2395fe7d… (all of the seat's roots in one cut). By AI agents, Wed Nov 11 2026. No macro, syntax, notation, axiom, sorry.
-/
import Derived.Test.YtkmflfmbmmpohaaChecked
import GoSem.Claim
import GoSem.ClaimJoined
import GoSem.ClaimMapViews
import Derived.JoinedTies
import Derived.KernelRfl
namespace Go.Proofs.Ytkmflfmbmmpohaa
/- THE CELL 'sum', in the pinned program and in every row, IS THE sha256 OF THE DUMP (.gsa) THAT YtkmflfmbmmpohaaProg.lean LOADS. Nothing in Lean hashes anything: it is a label: what it is worth is what the hold of that sum in a sandbox is worth. -/
noncomputable def Try.pinned : Pinned := { name := "ytkmflfmbmmpohaa", sum := "341a47cc2395fe7dbff2d2662d0ee0e2cf82fea6dc6fbd8f35a2754e04f3a2e9", checked := Try.checked }
namespace Rows
def none {H : Type} : Left H := { results := [], args := [] }

/-- 'laws.FnMac': WHATEVER THE INPUT: true; the input reads as it did. -/
def fnMacSpec : ChangeSpec := { name := "fnMac", fn := fun _ => fun
  | [d] => { results := [.lit (.bool true)], args := [d] }
  | _ => none }
def fnMacRow : OpenClaim := { program := "ytkmflfmbmmpohaa", sum := "341a47cc2395fe7dbff2d2662d0ee0e2cf82fea6dc6fbd8f35a2754e04f3a2e9", func := "loop.example/g00504/laws.FnMac", spec := "fnMac", unfollowed := true, recurses := true, apart := false }
def FnMacSaid : Prop := fnMacRow.holds Try.pinned (OpenSpec.ofChange fnMacSpec)

/-- ITS FALSE NEIGHBOUR: 'it returns false'. Refute it at one input. -/
def fnMacWrong : ChangeSpec := { name := "fnMac", fn := fun _ => fun
  | [d] => { results := [.lit (.bool false)], args := [d] }
  | _ => none }
def FnMacWrongFalsely : Prop := fnMacRow.holds Try.pinned (OpenSpec.ofChange fnMacWrong)

/-- 'laws.FnExactMacOk': WHATEVER THE INPUT: true; the input reads as it did. -/
def fnExactMacOkSpec : ChangeSpec := { name := "fnExactMacOk", fn := fun _ => fun
  | [d] => { results := [.lit (.bool true)], args := [d] }
  | _ => none }
def fnExactMacOkRow : OpenClaim := { program := "ytkmflfmbmmpohaa", sum := "341a47cc2395fe7dbff2d2662d0ee0e2cf82fea6dc6fbd8f35a2754e04f3a2e9", func := "loop.example/g00504/laws.FnExactMacOk", spec := "fnExactMacOk", unfollowed := true, recurses := true, apart := false }
def FnExactMacOkSaid : Prop := fnExactMacOkRow.holds Try.pinned (OpenSpec.ofChange fnExactMacOkSpec)

/-- ITS FALSE NEIGHBOUR: 'it returns false'. Refute it at one input. -/
def fnExactMacOkWrong : ChangeSpec := { name := "fnExactMacOk", fn := fun _ => fun
  | [d] => { results := [.lit (.bool false)], args := [d] }
  | _ => none }
def FnExactMacOkWrongFalsely : Prop := fnExactMacOkRow.holds Try.pinned (OpenSpec.ofChange fnExactMacOkWrong)

/-- 'laws.FnExactMacOf': WHATEVER THE INPUT: true; the input reads as it did. -/
def fnExactMacOfSpec : ChangeSpec := { name := "fnExactMacOf", fn := fun _ => fun
  | [d1, d2] => { results := [.lit (.bool true)], args := [d1, d2] }
  | _ => none }
def fnExactMacOfRow : OpenClaim := { program := "ytkmflfmbmmpohaa", sum := "341a47cc2395fe7dbff2d2662d0ee0e2cf82fea6dc6fbd8f35a2754e04f3a2e9", func := "loop.example/g00504/laws.FnExactMacOf", spec := "fnExactMacOf", unfollowed := true, recurses := true, apart := false }
def FnExactMacOfSaid : Prop := fnExactMacOfRow.holds Try.pinned (OpenSpec.ofChange fnExactMacOfSpec)

/-- ITS FALSE NEIGHBOUR: 'it returns false'. Refute it at one input. -/
def fnExactMacOfWrong : ChangeSpec := { name := "fnExactMacOf", fn := fun _ => fun
  | [d1, d2] => { results := [.lit (.bool false)], args := [d1, d2] }
  | _ => none }
def FnExactMacOfWrongFalsely : Prop := fnExactMacOfRow.holds Try.pinned (OpenSpec.ofChange fnExactMacOfWrong)

/-- 'laws.FnExactTableMac': WHATEVER THE INPUT: true; the input reads as it did. -/
def fnExactTableMacSpec : ChangeSpec := { name := "fnExactTableMac", fn := fun _ => fun
  | [d] => { results := [.lit (.bool true)], args := [d] }
  | _ => none }
def fnExactTableMacRow : OpenClaim := { program := "ytkmflfmbmmpohaa", sum := "341a47cc2395fe7dbff2d2662d0ee0e2cf82fea6dc6fbd8f35a2754e04f3a2e9", func := "loop.example/g00504/laws.FnExactTableMac", spec := "fnExactTableMac", apart := false }
def FnExactTableMacSaid : Prop := fnExactTableMacRow.holds Try.pinned (OpenSpec.ofChange fnExactTableMacSpec)

/-- ITS FALSE NEIGHBOUR: 'it returns false'. Refute it at one input. -/
def fnExactTableMacWrong : ChangeSpec := { name := "fnExactTableMac", fn := fun _ => fun
  | [d] => { results := [.lit (.bool false)], args := [d] }
  | _ => none }
def FnExactTableMacWrongFalsely : Prop := fnExactTableMacRow.holds Try.pinned (OpenSpec.ofChange fnExactTableMacWrong)

/-- 'laws.FnExactKeyMac': WHATEVER THE INPUT: true; the input reads as it did. -/
def fnExactKeyMacSpec : ChangeSpec := { name := "fnExactKeyMac", fn := fun _ => fun
  | [d1, d2] => { results := [.lit (.bool true)], args := [d1, d2] }
  | _ => none }
def fnExactKeyMacRow : OpenClaim := { program := "ytkmflfmbmmpohaa", sum := "341a47cc2395fe7dbff2d2662d0ee0e2cf82fea6dc6fbd8f35a2754e04f3a2e9", func := "loop.example/g00504/laws.FnExactKeyMac", spec := "fnExactKeyMac", apart := false }
def FnExactKeyMacSaid : Prop := fnExactKeyMacRow.holds Try.pinned (OpenSpec.ofChange fnExactKeyMacSpec)

/-- ITS FALSE NEIGHBOUR: 'it returns false'. Refute it at one input. -/
def fnExactKeyMacWrong : ChangeSpec := { name := "fnExactKeyMac", fn := fun _ => fun
  | [d1, d2] => { results := [.lit (.bool false)], args := [d1, d2] }
  | _ => none }
def FnExactKeyMacWrongFalsely : Prop := fnExactKeyMacRow.holds Try.pinned (OpenSpec.ofChange fnExactKeyMacWrong)

/-- 'laws.FnExactSameMac': WHATEVER THE INPUT: true; the input reads as it did. -/
def fnExactSameMacSpec : ChangeSpec := { name := "fnExactSameMac", fn := fun _ => fun
  | [d1, d2] => { results := [.lit (.bool true)], args := [d1, d2] }
  | _ => none }
def fnExactSameMacRow : OpenClaim := { program := "ytkmflfmbmmpohaa", sum := "341a47cc2395fe7dbff2d2662d0ee0e2cf82fea6dc6fbd8f35a2754e04f3a2e9", func := "loop.example/g00504/laws.FnExactSameMac", spec := "fnExactSameMac", apart := false }
def FnExactSameMacSaid : Prop := fnExactSameMacRow.holds Try.pinned (OpenSpec.ofChange fnExactSameMacSpec)

/-- ITS FALSE NEIGHBOUR: 'it returns false'. Refute it at one input. -/
def fnExactSameMacWrong : ChangeSpec := { name := "fnExactSameMac", fn := fun _ => fun
  | [d1, d2] => { results := [.lit (.bool false)], args := [d1, d2] }
  | _ => none }
def FnExactSameMacWrongFalsely : Prop := fnExactSameMacRow.holds Try.pinned (OpenSpec.ofChange fnExactSameMacWrong)

/- THE SECOND FORM. 'bulk': how many values and letters a reading holds, each counted each time it is reached (what is shared counts as often as it is met; a slice's spare places count too). A statement '..UptoSaid' is the law's where the arguments, and the package variables that the reading takes, are together of bulk at most 1048576: NARROWER than '..Said'. Prove '..Said' where nothing that the law and all that it calls make is longer than what came in: it says more and counts as full. Else prove '..UptoSaid'. A law counts once. -/
mutual
def uptoBulk {H : Type} : DataW H → Nat
  | .lit (.string bytes) => bytes.length + 1
  | .lit _ => 1
  | .nil => 1
  | .ptr d => uptoBulk d + 1
  | .slice elems spare => uptoBulkAll elems + uptoBulkAll spare + 1
  | .agg parts => uptoBulkAll parts + 1
  | .iface _ d => uptoBulk d + 1
  | .map entries => uptoBulkEntries entries + 1
  | .held _ => 1
def uptoBulkAll {H : Type} : List (DataW H) → Nat
  | [] => 0
  | d :: r => uptoBulk d + uptoBulkAll r
def uptoBulkEntries {H : Type} : List (Lit × DataW H) → Nat
  | [] => 0
  | x :: r => uptoBulkEntry x + uptoBulkEntries r
def uptoBulkEntry {H : Type} : Lit × DataW H → Nat
  | (.string bytes, d) => bytes.length + uptoBulk d + 1
  | (_, d) => uptoBulk d + 1
 end
def uptoSmall : (H : Type) → List (DataW H) → Bool := fun _ ds => decide (uptoBulkAll ds ≤ 1048576)
def OpenSpec.upto (s : _root_.Go.ChangeSpec) : _root_.Go.OpenSpec := { _root_.Go.OpenSpec.ofChange s with cond := some uptoSmall }

/-- 'laws.FnMac', WHERE WHAT IT READS IS OF BULK AT MOST 1048576: true; the input reads as it did. -/
def fnMacUptoRow : OpenClaim := { program := "ytkmflfmbmmpohaa", sum := "341a47cc2395fe7dbff2d2662d0ee0e2cf82fea6dc6fbd8f35a2754e04f3a2e9", func := "loop.example/g00504/laws.FnMac", spec := "fnMac", unfollowed := true, recurses := true, apart := false, narrowed := true }
def FnMacUptoSaid : Prop := fnMacUptoRow.holds Try.pinned (OpenSpec.upto fnMacSpec)

/-- 'laws.FnExactMacOk', WHERE WHAT IT READS IS OF BULK AT MOST 1048576: true; the input reads as it did. -/
def fnExactMacOkUptoRow : OpenClaim := { program := "ytkmflfmbmmpohaa", sum := "341a47cc2395fe7dbff2d2662d0ee0e2cf82fea6dc6fbd8f35a2754e04f3a2e9", func := "loop.example/g00504/laws.FnExactMacOk", spec := "fnExactMacOk", unfollowed := true, recurses := true, apart := false, narrowed := true }
def FnExactMacOkUptoSaid : Prop := fnExactMacOkUptoRow.holds Try.pinned (OpenSpec.upto fnExactMacOkSpec)

/-- 'laws.FnExactMacOf', WHERE WHAT IT READS IS OF BULK AT MOST 1048576: true; the input reads as it did. -/
def fnExactMacOfUptoRow : OpenClaim := { program := "ytkmflfmbmmpohaa", sum := "341a47cc2395fe7dbff2d2662d0ee0e2cf82fea6dc6fbd8f35a2754e04f3a2e9", func := "loop.example/g00504/laws.FnExactMacOf", spec := "fnExactMacOf", unfollowed := true, recurses := true, apart := false, narrowed := true }
def FnExactMacOfUptoSaid : Prop := fnExactMacOfUptoRow.holds Try.pinned (OpenSpec.upto fnExactMacOfSpec)

/-- 'laws.FnExactTableMac', WHERE WHAT IT READS IS OF BULK AT MOST 1048576: true; the input reads as it did. -/
def fnExactTableMacUptoRow : OpenClaim := { program := "ytkmflfmbmmpohaa", sum := "341a47cc2395fe7dbff2d2662d0ee0e2cf82fea6dc6fbd8f35a2754e04f3a2e9", func := "loop.example/g00504/laws.FnExactTableMac", spec := "fnExactTableMac", apart := false, narrowed := true }
def FnExactTableMacUptoSaid : Prop := fnExactTableMacUptoRow.holds Try.pinned (OpenSpec.upto fnExactTableMacSpec)

/-- 'laws.FnExactKeyMac', WHERE WHAT IT READS IS OF BULK AT MOST 1048576: true; the input reads as it did. -/
def fnExactKeyMacUptoRow : OpenClaim := { program := "ytkmflfmbmmpohaa", sum := "341a47cc2395fe7dbff2d2662d0ee0e2cf82fea6dc6fbd8f35a2754e04f3a2e9", func := "loop.example/g00504/laws.FnExactKeyMac", spec := "fnExactKeyMac", apart := false, narrowed := true }
def FnExactKeyMacUptoSaid : Prop := fnExactKeyMacUptoRow.holds Try.pinned (OpenSpec.upto fnExactKeyMacSpec)

/-- 'laws.FnExactSameMac', WHERE WHAT IT READS IS OF BULK AT MOST 1048576: true; the input reads as it did. -/
def fnExactSameMacUptoRow : OpenClaim := { program := "ytkmflfmbmmpohaa", sum := "341a47cc2395fe7dbff2d2662d0ee0e2cf82fea6dc6fbd8f35a2754e04f3a2e9", func := "loop.example/g00504/laws.FnExactSameMac", spec := "fnExactSameMac", apart := false, narrowed := true }
def FnExactSameMacUptoSaid : Prop := fnExactSameMacUptoRow.holds Try.pinned (OpenSpec.upto fnExactSameMacSpec)

end Rows
end Go.Proofs.Ytkmflfmbmmpohaa
