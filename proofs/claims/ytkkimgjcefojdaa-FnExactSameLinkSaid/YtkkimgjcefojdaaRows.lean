/-
  No cell of these rows narrows 'for every input' (looked for: loops, veiled, ifaces, maps, wideKeys, modest, calm, conditions, laid).
  DERIVED. THE GIVEN ROWS OF THIS SEAT. 3 by the template 'for every input the law returns true; each argument reads behind the call as it read before'; 0 by the template 'total and deterministic' (their statements: YtkkimgjcefojdaaTotals.lean).
  GIVEN WITH THE SEED: the statements are not yours to turn. If you find one false, say at which input.
  Laid BY PROGRAM, IN A SANDBOX (cutbox-rows.mjs): the forced cells as the released guide's own fill.sh prints them over the translation 8db2d41034d44813… (all of the seat's roots in one cut). By AI agents, Wed Nov 11 2026. No macro, syntax, notation, axiom, sorry.
-/
import Derived.Test.YtkkimgjcefojdaaChecked
import GoSem.Claim
import GoSem.ClaimJoined
import GoSem.ClaimMapViews
import Derived.JoinedTies
import Derived.KernelRfl
namespace Go.Proofs.Ytkkimgjcefojdaa
/- THE CELL 'sum', in the pinned program and in every row, IS THE sha256 OF THE DUMP (.gsa) THAT YtkkimgjcefojdaaProg.lean LOADS. Nothing in Lean hashes anything: it is a label: what it is worth is what the hold of that sum in a sandbox is worth. -/
noncomputable def Try.pinned : Pinned := { name := "ytkkimgjcefojdaa", sum := "8db2d41034d4481386056bcb547a0ba3848d930a181b765a69cdfa9bad924ac3", checked := Try.checked }
namespace Rows
def none {H : Type} : Left H := { results := [], args := [] }

/-- 'laws.FnExactLinkOk': WHATEVER THE INPUT: true; the input reads as it did. -/
def fnExactLinkOkSpec : ChangeSpec := { name := "fnExactLinkOk", fn := fun _ => fun
  | [d] => { results := [.lit (.bool true)], args := [d] }
  | _ => none }
def fnExactLinkOkRow : OpenClaim := { program := "ytkkimgjcefojdaa", sum := "8db2d41034d4481386056bcb547a0ba3848d930a181b765a69cdfa9bad924ac3", func := "loop.example/g00504/laws.FnExactLinkOk", spec := "fnExactLinkOk", unfollowed := true, recurses := true, apart := false }
def FnExactLinkOkSaid : Prop := fnExactLinkOkRow.holds Try.pinned (OpenSpec.ofChange fnExactLinkOkSpec)

/-- ITS FALSE NEIGHBOUR: 'it returns false'. Refute it at one input. -/
def fnExactLinkOkWrong : ChangeSpec := { name := "fnExactLinkOk", fn := fun _ => fun
  | [d] => { results := [.lit (.bool false)], args := [d] }
  | _ => none }
def FnExactLinkOkWrongFalsely : Prop := fnExactLinkOkRow.holds Try.pinned (OpenSpec.ofChange fnExactLinkOkWrong)

/-- 'laws.FnExactLinkOut': WHATEVER THE INPUT: true; the input reads as it did. -/
def fnExactLinkOutSpec : ChangeSpec := { name := "fnExactLinkOut", fn := fun _ => fun
  | [d1, d2, d3] => { results := [.lit (.bool true)], args := [d1, d2, d3] }
  | _ => none }
def fnExactLinkOutRow : OpenClaim := { program := "ytkkimgjcefojdaa", sum := "8db2d41034d4481386056bcb547a0ba3848d930a181b765a69cdfa9bad924ac3", func := "loop.example/g00504/laws.FnExactLinkOut", spec := "fnExactLinkOut", unfollowed := true, recurses := true, apart := false }
def FnExactLinkOutSaid : Prop := fnExactLinkOutRow.holds Try.pinned (OpenSpec.ofChange fnExactLinkOutSpec)

/-- ITS FALSE NEIGHBOUR: 'it returns false'. Refute it at one input. -/
def fnExactLinkOutWrong : ChangeSpec := { name := "fnExactLinkOut", fn := fun _ => fun
  | [d1, d2, d3] => { results := [.lit (.bool false)], args := [d1, d2, d3] }
  | _ => none }
def FnExactLinkOutWrongFalsely : Prop := fnExactLinkOutRow.holds Try.pinned (OpenSpec.ofChange fnExactLinkOutWrong)

/-- 'laws.FnExactSameLink': WHATEVER THE INPUT: true; the input reads as it did. -/
def fnExactSameLinkSpec : ChangeSpec := { name := "fnExactSameLink", fn := fun _ => fun
  | [d1, d2] => { results := [.lit (.bool true)], args := [d1, d2] }
  | _ => none }
def fnExactSameLinkRow : OpenClaim := { program := "ytkkimgjcefojdaa", sum := "8db2d41034d4481386056bcb547a0ba3848d930a181b765a69cdfa9bad924ac3", func := "loop.example/g00504/laws.FnExactSameLink", spec := "fnExactSameLink", apart := false }
def FnExactSameLinkSaid : Prop := fnExactSameLinkRow.holds Try.pinned (OpenSpec.ofChange fnExactSameLinkSpec)

/-- ITS FALSE NEIGHBOUR: 'it returns false'. Refute it at one input. -/
def fnExactSameLinkWrong : ChangeSpec := { name := "fnExactSameLink", fn := fun _ => fun
  | [d1, d2] => { results := [.lit (.bool false)], args := [d1, d2] }
  | _ => none }
def FnExactSameLinkWrongFalsely : Prop := fnExactSameLinkRow.holds Try.pinned (OpenSpec.ofChange fnExactSameLinkWrong)

/- THE SECOND FORM. 'bulk': how many values and letters a reading holds, each counted each time it is reached (what is shared counts as often as it is met; a slice's spare places count too). A statement '..UptoSaid' is the law's where the arguments, and the package variables that the reading takes, are together of bulk at most 1048576: NARROWER than '..Said'. Prove '..Said' where nothing that the law and all that it calls make is longer than what came in: it says more and counts as full. Else prove '..UptoSaid'. A law counts once. -/
mutual
def uptoBulk {H : Type} : DataW H → Nat
  | .lit (.string bytes) => bytes.length + 1
  | .lit _ => 1
  | .nil => 1
  | .ptr d => uptoBulk d + 1
  | .slice elems spare => uptoBulkAll elems + uptoBulkAll spare + 1
  | .agg parts => uptoBulkAll parts + 1
  | .iface _ d => uptoBulk d + 1
  | .map entries => uptoBulkEntries entries + 1
  | .held _ => 1
def uptoBulkAll {H : Type} : List (DataW H) → Nat
  | [] => 0
  | d :: r => uptoBulk d + uptoBulkAll r
def uptoBulkEntries {H : Type} : List (Lit × DataW H) → Nat
  | [] => 0
  | x :: r => uptoBulkEntry x + uptoBulkEntries r
def uptoBulkEntry {H : Type} : Lit × DataW H → Nat
  | (.string bytes, d) => bytes.length + uptoBulk d + 1
  | (_, d) => uptoBulk d + 1
 end
def uptoSmall : (H : Type) → List (DataW H) → Bool := fun _ ds => decide (uptoBulkAll ds ≤ 1048576)
def OpenSpec.upto (s : _root_.Go.ChangeSpec) : _root_.Go.OpenSpec := { _root_.Go.OpenSpec.ofChange s with cond := some uptoSmall }

/-- 'laws.FnExactLinkOk', WHERE WHAT IT READS IS OF BULK AT MOST 1048576: true; the input reads as it did. -/
def fnExactLinkOkUptoRow : OpenClaim := { program := "ytkkimgjcefojdaa", sum := "8db2d41034d4481386056bcb547a0ba3848d930a181b765a69cdfa9bad924ac3", func := "loop.example/g00504/laws.FnExactLinkOk", spec := "fnExactLinkOk", unfollowed := true, recurses := true, apart := false, narrowed := true }
def FnExactLinkOkUptoSaid : Prop := fnExactLinkOkUptoRow.holds Try.pinned (OpenSpec.upto fnExactLinkOkSpec)

/-- 'laws.FnExactLinkOut', WHERE WHAT IT READS IS OF BULK AT MOST 1048576: true; the input reads as it did. -/
def fnExactLinkOutUptoRow : OpenClaim := { program := "ytkkimgjcefojdaa", sum := "8db2d41034d4481386056bcb547a0ba3848d930a181b765a69cdfa9bad924ac3", func := "loop.example/g00504/laws.FnExactLinkOut", spec := "fnExactLinkOut", unfollowed := true, recurses := true, apart := false, narrowed := true }
def FnExactLinkOutUptoSaid : Prop := fnExactLinkOutUptoRow.holds Try.pinned (OpenSpec.upto fnExactLinkOutSpec)

/-- 'laws.FnExactSameLink', WHERE WHAT IT READS IS OF BULK AT MOST 1048576: true; the input reads as it did. -/
def fnExactSameLinkUptoRow : OpenClaim := { program := "ytkkimgjcefojdaa", sum := "8db2d41034d4481386056bcb547a0ba3848d930a181b765a69cdfa9bad924ac3", func := "loop.example/g00504/laws.FnExactSameLink", spec := "fnExactSameLink", apart := false, narrowed := true }
def FnExactSameLinkUptoSaid : Prop := fnExactSameLinkUptoRow.holds Try.pinned (OpenSpec.upto fnExactSameLinkSpec)

end Rows
end Go.Proofs.Ytkkimgjcefojdaa
