/-
  No cell of these rows narrows 'for every input' (looked for: loops, veiled, ifaces, maps, wideKeys, modest, calm, conditions, laid).
  DERIVED. THE GIVEN ROWS OF THIS SEAT. 8 by the template 'for every input the law returns true; each argument reads behind the call as it read before'; 0 by the template 'total and deterministic' (their statements: YtahkaemdgelmdaaTotals.lean).
  GIVEN WITH THE SEED: the statements are not yours to turn. If you find one false, say at which input.
  Laid BY PROGRAM, IN A SANDBOX (cutbox-rows.mjs): the forced cells as the released guide's own fill.sh prints them over the translation 5e2ff0fb721309ee… (all of the seat's roots in one cut). By AI agents, Wed Nov 11 2026. No macro, syntax, notation, axiom, sorry.
-/
import Derived.Test.YtahkaemdgelmdaaChecked
import GoSem.Claim
import GoSem.ClaimJoined
import GoSem.ClaimMapViews
import Derived.JoinedTies
import Derived.KernelRfl
namespace Go.Proofs.Ytahkaemdgelmdaa
/- THE CELL 'sum', in the pinned program and in every row, IS THE sha256 OF THE DUMP (.gsa) THAT YtahkaemdgelmdaaProg.lean LOADS. Nothing in Lean hashes anything: it is a label: what it is worth is what the hold of that sum in a sandbox is worth. -/
noncomputable def Try.pinned : Pinned := { name := "ytahkaemdgelmdaa", sum := "5e2ff0fb721309ee9b359111976392b6fe5566886a4a7c3707b09d71abc3afef", checked := Try.checked }
namespace Rows
def none {H : Type} : Left H := { results := [], args := [] }

/-- 'laws.FnSum': WHATEVER THE INPUT: true; the input reads as it did. -/
def fnSumSpec : ChangeSpec := { name := "fnSum", fn := fun _ => fun
  | [d] => { results := [.lit (.bool true)], args := [d] }
  | _ => none }
def fnSumRow : OpenClaim := { program := "ytahkaemdgelmdaa", sum := "5e2ff0fb721309ee9b359111976392b6fe5566886a4a7c3707b09d71abc3afef", func := "loop.example/g00504/laws.FnSum", spec := "fnSum", apart := false }
def FnSumSaid : Prop := fnSumRow.holds Try.pinned (OpenSpec.ofChange fnSumSpec)

/-- ITS FALSE NEIGHBOUR: 'it returns false'. Refute it at one input. -/
def fnSumWrong : ChangeSpec := { name := "fnSum", fn := fun _ => fun
  | [d] => { results := [.lit (.bool false)], args := [d] }
  | _ => none }
def FnSumWrongFalsely : Prop := fnSumRow.holds Try.pinned (OpenSpec.ofChange fnSumWrong)

/-- 'laws.FnSumParts': WHATEVER THE INPUT: true; the input reads as it did. -/
def fnSumPartsSpec : ChangeSpec := { name := "fnSumParts", fn := fun _ => fun
  | [d] => { results := [.lit (.bool true)], args := [d] }
  | _ => none }
def fnSumPartsRow : OpenClaim := { program := "ytahkaemdgelmdaa", sum := "5e2ff0fb721309ee9b359111976392b6fe5566886a4a7c3707b09d71abc3afef", func := "loop.example/g00504/laws.FnSumParts", spec := "fnSumParts", apart := false }
def FnSumPartsSaid : Prop := fnSumPartsRow.holds Try.pinned (OpenSpec.ofChange fnSumPartsSpec)

/-- ITS FALSE NEIGHBOUR: 'it returns false'. Refute it at one input. -/
def fnSumPartsWrong : ChangeSpec := { name := "fnSumParts", fn := fun _ => fun
  | [d] => { results := [.lit (.bool false)], args := [d] }
  | _ => none }
def FnSumPartsWrongFalsely : Prop := fnSumPartsRow.holds Try.pinned (OpenSpec.ofChange fnSumPartsWrong)

/-- 'laws.FnFolded': WHATEVER THE INPUT: true; the input reads as it did. -/
def fnFoldedSpec : ChangeSpec := { name := "fnFolded", fn := fun _ => fun
  | [d] => { results := [.lit (.bool true)], args := [d] }
  | _ => none }
def fnFoldedRow : OpenClaim := { program := "ytahkaemdgelmdaa", sum := "5e2ff0fb721309ee9b359111976392b6fe5566886a4a7c3707b09d71abc3afef", func := "loop.example/g00504/laws.FnFolded", spec := "fnFolded", apart := false }
def FnFoldedSaid : Prop := fnFoldedRow.holds Try.pinned (OpenSpec.ofChange fnFoldedSpec)

/-- ITS FALSE NEIGHBOUR: 'it returns false'. Refute it at one input. -/
def fnFoldedWrong : ChangeSpec := { name := "fnFolded", fn := fun _ => fun
  | [d] => { results := [.lit (.bool false)], args := [d] }
  | _ => none }
def FnFoldedWrongFalsely : Prop := fnFoldedRow.holds Try.pinned (OpenSpec.ofChange fnFoldedWrong)

/-- 'laws.FnExactWordSum': WHATEVER THE INPUT: true; the input reads as it did. -/
def fnExactWordSumSpec : ChangeSpec := { name := "fnExactWordSum", fn := fun _ => fun
  | [d] => { results := [.lit (.bool true)], args := [d] }
  | _ => none }
def fnExactWordSumRow : OpenClaim := { program := "ytahkaemdgelmdaa", sum := "5e2ff0fb721309ee9b359111976392b6fe5566886a4a7c3707b09d71abc3afef", func := "loop.example/g00504/laws.FnExactWordSum", spec := "fnExactWordSum", apart := false }
def FnExactWordSumSaid : Prop := fnExactWordSumRow.holds Try.pinned (OpenSpec.ofChange fnExactWordSumSpec)

/-- ITS FALSE NEIGHBOUR: 'it returns false'. Refute it at one input. -/
def fnExactWordSumWrong : ChangeSpec := { name := "fnExactWordSum", fn := fun _ => fun
  | [d] => { results := [.lit (.bool false)], args := [d] }
  | _ => none }
def FnExactWordSumWrongFalsely : Prop := fnExactWordSumRow.holds Try.pinned (OpenSpec.ofChange fnExactWordSumWrong)

/-- 'laws.FnExactSumOf': WHATEVER THE INPUT: true; the input reads as it did. -/
def fnExactSumOfSpec : ChangeSpec := { name := "fnExactSumOf", fn := fun _ => fun
  | [d] => { results := [.lit (.bool true)], args := [d] }
  | _ => none }
def fnExactSumOfRow : OpenClaim := { program := "ytahkaemdgelmdaa", sum := "5e2ff0fb721309ee9b359111976392b6fe5566886a4a7c3707b09d71abc3afef", func := "loop.example/g00504/laws.FnExactSumOf", spec := "fnExactSumOf", apart := false }
def FnExactSumOfSaid : Prop := fnExactSumOfRow.holds Try.pinned (OpenSpec.ofChange fnExactSumOfSpec)

/-- ITS FALSE NEIGHBOUR: 'it returns false'. Refute it at one input. -/
def fnExactSumOfWrong : ChangeSpec := { name := "fnExactSumOf", fn := fun _ => fun
  | [d] => { results := [.lit (.bool false)], args := [d] }
  | _ => none }
def FnExactSumOfWrongFalsely : Prop := fnExactSumOfRow.holds Try.pinned (OpenSpec.ofChange fnExactSumOfWrong)

/-- 'laws.FnExactSumRight': WHATEVER THE INPUT: true; the input reads as it did. -/
def fnExactSumRightSpec : ChangeSpec := { name := "fnExactSumRight", fn := fun _ => fun
  | [d] => { results := [.lit (.bool true)], args := [d] }
  | _ => none }
def fnExactSumRightRow : OpenClaim := { program := "ytahkaemdgelmdaa", sum := "5e2ff0fb721309ee9b359111976392b6fe5566886a4a7c3707b09d71abc3afef", func := "loop.example/g00504/laws.FnExactSumRight", spec := "fnExactSumRight", apart := false }
def FnExactSumRightSaid : Prop := fnExactSumRightRow.holds Try.pinned (OpenSpec.ofChange fnExactSumRightSpec)

/-- ITS FALSE NEIGHBOUR: 'it returns false'. Refute it at one input. -/
def fnExactSumRightWrong : ChangeSpec := { name := "fnExactSumRight", fn := fun _ => fun
  | [d] => { results := [.lit (.bool false)], args := [d] }
  | _ => none }
def FnExactSumRightWrongFalsely : Prop := fnExactSumRightRow.holds Try.pinned (OpenSpec.ofChange fnExactSumRightWrong)

/-- 'laws.FnExactPseudoHead': WHATEVER THE INPUT: true; the input reads as it did. -/
def fnExactPseudoHeadSpec : ChangeSpec := { name := "fnExactPseudoHead", fn := fun _ => fun
  | [d1, d2, d3] => { results := [.lit (.bool true)], args := [d1, d2, d3] }
  | _ => none }
def fnExactPseudoHeadRow : OpenClaim := { program := "ytahkaemdgelmdaa", sum := "5e2ff0fb721309ee9b359111976392b6fe5566886a4a7c3707b09d71abc3afef", func := "loop.example/g00504/laws.FnExactPseudoHead", spec := "fnExactPseudoHead", apart := false }
def FnExactPseudoHeadSaid : Prop := fnExactPseudoHeadRow.holds Try.pinned (OpenSpec.ofChange fnExactPseudoHeadSpec)

/-- ITS FALSE NEIGHBOUR: 'it returns false'. Refute it at one input. -/
def fnExactPseudoHeadWrong : ChangeSpec := { name := "fnExactPseudoHead", fn := fun _ => fun
  | [d1, d2, d3] => { results := [.lit (.bool false)], args := [d1, d2, d3] }
  | _ => none }
def FnExactPseudoHeadWrongFalsely : Prop := fnExactPseudoHeadRow.holds Try.pinned (OpenSpec.ofChange fnExactPseudoHeadWrong)

/-- 'laws.FnExactFolded': WHATEVER THE INPUT: true; the input reads as it did. -/
def fnExactFoldedSpec : ChangeSpec := { name := "fnExactFolded", fn := fun _ => fun
  | [d] => { results := [.lit (.bool true)], args := [d] }
  | _ => none }
def fnExactFoldedRow : OpenClaim := { program := "ytahkaemdgelmdaa", sum := "5e2ff0fb721309ee9b359111976392b6fe5566886a4a7c3707b09d71abc3afef", func := "loop.example/g00504/laws.FnExactFolded", spec := "fnExactFolded", apart := false }
def FnExactFoldedSaid : Prop := fnExactFoldedRow.holds Try.pinned (OpenSpec.ofChange fnExactFoldedSpec)

/-- ITS FALSE NEIGHBOUR: 'it returns false'. Refute it at one input. -/
def fnExactFoldedWrong : ChangeSpec := { name := "fnExactFolded", fn := fun _ => fun
  | [d] => { results := [.lit (.bool false)], args := [d] }
  | _ => none }
def FnExactFoldedWrongFalsely : Prop := fnExactFoldedRow.holds Try.pinned (OpenSpec.ofChange fnExactFoldedWrong)

/- THE SECOND FORM. 'bulk': how many values and letters a reading holds, each counted each time it is reached (what is shared counts as often as it is met; a slice's spare places count too). A statement '..UptoSaid' is the law's where the arguments, and the package variables that the reading takes, are together of bulk at most 1048576: NARROWER than '..Said'. Prove '..Said' where nothing that the law and all that it calls make is longer than what came in: it says more and counts as full. Else prove '..UptoSaid'. A law counts once. -/
mutual
def uptoBulk {H : Type} : DataW H → Nat
  | .lit (.string bytes) => bytes.length + 1
  | .lit _ => 1
  | .nil => 1
  | .ptr d => uptoBulk d + 1
  | .slice elems spare => uptoBulkAll elems + uptoBulkAll spare + 1
  | .agg parts => uptoBulkAll parts + 1
  | .iface _ d => uptoBulk d + 1
  | .map entries => uptoBulkEntries entries + 1
  | .held _ => 1
def uptoBulkAll {H : Type} : List (DataW H) → Nat
  | [] => 0
  | d :: r => uptoBulk d + uptoBulkAll r
def uptoBulkEntries {H : Type} : List (Lit × DataW H) → Nat
  | [] => 0
  | x :: r => uptoBulkEntry x + uptoBulkEntries r
def uptoBulkEntry {H : Type} : Lit × DataW H → Nat
  | (.string bytes, d) => bytes.length + uptoBulk d + 1
  | (_, d) => uptoBulk d + 1
 end
def uptoSmall : (H : Type) → List (DataW H) → Bool := fun _ ds => decide (uptoBulkAll ds ≤ 1048576)
def OpenSpec.upto (s : _root_.Go.ChangeSpec) : _root_.Go.OpenSpec := { _root_.Go.OpenSpec.ofChange s with cond := some uptoSmall }

/-- 'laws.FnSum', WHERE WHAT IT READS IS OF BULK AT MOST 1048576: true; the input reads as it did. -/
def fnSumUptoRow : OpenClaim := { program := "ytahkaemdgelmdaa", sum := "5e2ff0fb721309ee9b359111976392b6fe5566886a4a7c3707b09d71abc3afef", func := "loop.example/g00504/laws.FnSum", spec := "fnSum", apart := false, narrowed := true }
def FnSumUptoSaid : Prop := fnSumUptoRow.holds Try.pinned (OpenSpec.upto fnSumSpec)

/-- 'laws.FnSumParts', WHERE WHAT IT READS IS OF BULK AT MOST 1048576: true; the input reads as it did. -/
def fnSumPartsUptoRow : OpenClaim := { program := "ytahkaemdgelmdaa", sum := "5e2ff0fb721309ee9b359111976392b6fe5566886a4a7c3707b09d71abc3afef", func := "loop.example/g00504/laws.FnSumParts", spec := "fnSumParts", apart := false, narrowed := true }
def FnSumPartsUptoSaid : Prop := fnSumPartsUptoRow.holds Try.pinned (OpenSpec.upto fnSumPartsSpec)

/-- 'laws.FnFolded', WHERE WHAT IT READS IS OF BULK AT MOST 1048576: true; the input reads as it did. -/
def fnFoldedUptoRow : OpenClaim := { program := "ytahkaemdgelmdaa", sum := "5e2ff0fb721309ee9b359111976392b6fe5566886a4a7c3707b09d71abc3afef", func := "loop.example/g00504/laws.FnFolded", spec := "fnFolded", apart := false, narrowed := true }
def FnFoldedUptoSaid : Prop := fnFoldedUptoRow.holds Try.pinned (OpenSpec.upto fnFoldedSpec)

/-- 'laws.FnExactWordSum', WHERE WHAT IT READS IS OF BULK AT MOST 1048576: true; the input reads as it did. -/
def fnExactWordSumUptoRow : OpenClaim := { program := "ytahkaemdgelmdaa", sum := "5e2ff0fb721309ee9b359111976392b6fe5566886a4a7c3707b09d71abc3afef", func := "loop.example/g00504/laws.FnExactWordSum", spec := "fnExactWordSum", apart := false, narrowed := true }
def FnExactWordSumUptoSaid : Prop := fnExactWordSumUptoRow.holds Try.pinned (OpenSpec.upto fnExactWordSumSpec)

/-- 'laws.FnExactSumOf', WHERE WHAT IT READS IS OF BULK AT MOST 1048576: true; the input reads as it did. -/
def fnExactSumOfUptoRow : OpenClaim := { program := "ytahkaemdgelmdaa", sum := "5e2ff0fb721309ee9b359111976392b6fe5566886a4a7c3707b09d71abc3afef", func := "loop.example/g00504/laws.FnExactSumOf", spec := "fnExactSumOf", apart := false, narrowed := true }
def FnExactSumOfUptoSaid : Prop := fnExactSumOfUptoRow.holds Try.pinned (OpenSpec.upto fnExactSumOfSpec)

/-- 'laws.FnExactSumRight', WHERE WHAT IT READS IS OF BULK AT MOST 1048576: true; the input reads as it did. -/
def fnExactSumRightUptoRow : OpenClaim := { program := "ytahkaemdgelmdaa", sum := "5e2ff0fb721309ee9b359111976392b6fe5566886a4a7c3707b09d71abc3afef", func := "loop.example/g00504/laws.FnExactSumRight", spec := "fnExactSumRight", apart := false, narrowed := true }
def FnExactSumRightUptoSaid : Prop := fnExactSumRightUptoRow.holds Try.pinned (OpenSpec.upto fnExactSumRightSpec)

/-- 'laws.FnExactPseudoHead', WHERE WHAT IT READS IS OF BULK AT MOST 1048576: true; the input reads as it did. -/
def fnExactPseudoHeadUptoRow : OpenClaim := { program := "ytahkaemdgelmdaa", sum := "5e2ff0fb721309ee9b359111976392b6fe5566886a4a7c3707b09d71abc3afef", func := "loop.example/g00504/laws.FnExactPseudoHead", spec := "fnExactPseudoHead", apart := false, narrowed := true }
def FnExactPseudoHeadUptoSaid : Prop := fnExactPseudoHeadUptoRow.holds Try.pinned (OpenSpec.upto fnExactPseudoHeadSpec)

/-- 'laws.FnExactFolded', WHERE WHAT IT READS IS OF BULK AT MOST 1048576: true; the input reads as it did. -/
def fnExactFoldedUptoRow : OpenClaim := { program := "ytahkaemdgelmdaa", sum := "5e2ff0fb721309ee9b359111976392b6fe5566886a4a7c3707b09d71abc3afef", func := "loop.example/g00504/laws.FnExactFolded", spec := "fnExactFolded", apart := false, narrowed := true }
def FnExactFoldedUptoSaid : Prop := fnExactFoldedUptoRow.holds Try.pinned (OpenSpec.upto fnExactFoldedSpec)

end Rows
end Go.Proofs.Ytahkaemdgelmdaa
