/-
  No cell of these rows narrows 'for every input' (looked for: loops, veiled, ifaces, maps, wideKeys, modest, calm, conditions, laid).
  DERIVED. THE GIVEN ROWS OF THIS SEAT. 9 by the template 'for every input the law returns true; each argument reads behind the call as it read before'; 0 by the template 'total and deterministic' (their statements: YtfhdjefdbjnccaaTotals.lean).
  GIVEN WITH THE SEED: the statements are not yours to turn. If you find one false, say at which input.
  Laid BY PROGRAM, IN A SANDBOX (cutbox-rows.mjs): the forced cells as the released guide's own fill.sh prints them over the translation 1e6fa4d7225277b5… (all of the seat's roots in one cut). By AI agents, Wed Nov 11 2026. No macro, syntax, notation, axiom, sorry.
-/
import Derived.Test.YtfhdjefdbjnccaaChecked
import GoSem.Claim
import GoSem.ClaimJoined
import GoSem.ClaimMapViews
import Derived.JoinedTies
import Derived.KernelRfl
namespace Go.Proofs.Ytfhdjefdbjnccaa
/- THE CELL 'sum', in the pinned program and in every row, IS THE sha256 OF THE DUMP (.gsa) THAT YtfhdjefdbjnccaaProg.lean LOADS. Nothing in Lean hashes anything: it is a label: what it is worth is what the hold of that sum in a sandbox is worth. -/
noncomputable def Try.pinned : Pinned := { name := "ytfhdjefdbjnccaa", sum := "1e6fa4d7225277b565685830214fe286a4c2ab3bea8287ce98ad4a16f5251c7f", checked := Try.checked }
namespace Rows
def none {H : Type} : Left H := { results := [], args := [] }

/-- 'laws.FnSeq': WHATEVER THE INPUT: true; the input reads as it did. -/
def fnSeqSpec : ChangeSpec := { name := "fnSeq", fn := fun _ => fun
  | [d] => { results := [.lit (.bool true)], args := [d] }
  | _ => none }
def fnSeqRow : OpenClaim := { program := "ytfhdjefdbjnccaa", sum := "1e6fa4d7225277b565685830214fe286a4c2ab3bea8287ce98ad4a16f5251c7f", func := "loop.example/g00504/laws.FnSeq", spec := "fnSeq", apart := false }
def FnSeqSaid : Prop := fnSeqRow.holds Try.pinned (OpenSpec.ofChange fnSeqSpec)

/-- ITS FALSE NEIGHBOUR: 'it returns false'. Refute it at one input. -/
def fnSeqWrong : ChangeSpec := { name := "fnSeq", fn := fun _ => fun
  | [d] => { results := [.lit (.bool false)], args := [d] }
  | _ => none }
def FnSeqWrongFalsely : Prop := fnSeqRow.holds Try.pinned (OpenSpec.ofChange fnSeqWrong)

/-- 'laws.FnSeqOrder': WHATEVER THE INPUT: true; the input reads as it did. -/
def fnSeqOrderSpec : ChangeSpec := { name := "fnSeqOrder", fn := fun _ => fun
  | [d] => { results := [.lit (.bool true)], args := [d] }
  | _ => none }
def fnSeqOrderRow : OpenClaim := { program := "ytfhdjefdbjnccaa", sum := "1e6fa4d7225277b565685830214fe286a4c2ab3bea8287ce98ad4a16f5251c7f", func := "loop.example/g00504/laws.FnSeqOrder", spec := "fnSeqOrder", apart := false }
def FnSeqOrderSaid : Prop := fnSeqOrderRow.holds Try.pinned (OpenSpec.ofChange fnSeqOrderSpec)

/-- ITS FALSE NEIGHBOUR: 'it returns false'. Refute it at one input. -/
def fnSeqOrderWrong : ChangeSpec := { name := "fnSeqOrder", fn := fun _ => fun
  | [d] => { results := [.lit (.bool false)], args := [d] }
  | _ => none }
def FnSeqOrderWrongFalsely : Prop := fnSeqOrderRow.holds Try.pinned (OpenSpec.ofChange fnSeqOrderWrong)

/-- 'laws.FnWindow': WHATEVER THE INPUT: true; the input reads as it did. -/
def fnWindowSpec : ChangeSpec := { name := "fnWindow", fn := fun _ => fun
  | [d] => { results := [.lit (.bool true)], args := [d] }
  | _ => none }
def fnWindowRow : OpenClaim := { program := "ytfhdjefdbjnccaa", sum := "1e6fa4d7225277b565685830214fe286a4c2ab3bea8287ce98ad4a16f5251c7f", func := "loop.example/g00504/laws.FnWindow", spec := "fnWindow", apart := false }
def FnWindowSaid : Prop := fnWindowRow.holds Try.pinned (OpenSpec.ofChange fnWindowSpec)

/-- ITS FALSE NEIGHBOUR: 'it returns false'. Refute it at one input. -/
def fnWindowWrong : ChangeSpec := { name := "fnWindow", fn := fun _ => fun
  | [d] => { results := [.lit (.bool false)], args := [d] }
  | _ => none }
def FnWindowWrongFalsely : Prop := fnWindowRow.holds Try.pinned (OpenSpec.ofChange fnWindowWrong)

/-- 'laws.FnExactSeqAdd': WHATEVER THE INPUT: true; the input reads as it did. -/
def fnExactSeqAddSpec : ChangeSpec := { name := "fnExactSeqAdd", fn := fun _ => fun
  | [d1, d2] => { results := [.lit (.bool true)], args := [d1, d2] }
  | _ => none }
def fnExactSeqAddRow : OpenClaim := { program := "ytfhdjefdbjnccaa", sum := "1e6fa4d7225277b565685830214fe286a4c2ab3bea8287ce98ad4a16f5251c7f", func := "loop.example/g00504/laws.FnExactSeqAdd", spec := "fnExactSeqAdd", apart := false }
def FnExactSeqAddSaid : Prop := fnExactSeqAddRow.holds Try.pinned (OpenSpec.ofChange fnExactSeqAddSpec)

/-- ITS FALSE NEIGHBOUR: 'it returns false'. Refute it at one input. -/
def fnExactSeqAddWrong : ChangeSpec := { name := "fnExactSeqAdd", fn := fun _ => fun
  | [d1, d2] => { results := [.lit (.bool false)], args := [d1, d2] }
  | _ => none }
def FnExactSeqAddWrongFalsely : Prop := fnExactSeqAddRow.holds Try.pinned (OpenSpec.ofChange fnExactSeqAddWrong)

/-- 'laws.FnExactSeqDiff': WHATEVER THE INPUT: true; the input reads as it did. -/
def fnExactSeqDiffSpec : ChangeSpec := { name := "fnExactSeqDiff", fn := fun _ => fun
  | [d1, d2] => { results := [.lit (.bool true)], args := [d1, d2] }
  | _ => none }
def fnExactSeqDiffRow : OpenClaim := { program := "ytfhdjefdbjnccaa", sum := "1e6fa4d7225277b565685830214fe286a4c2ab3bea8287ce98ad4a16f5251c7f", func := "loop.example/g00504/laws.FnExactSeqDiff", spec := "fnExactSeqDiff", apart := false }
def FnExactSeqDiffSaid : Prop := fnExactSeqDiffRow.holds Try.pinned (OpenSpec.ofChange fnExactSeqDiffSpec)

/-- ITS FALSE NEIGHBOUR: 'it returns false'. Refute it at one input. -/
def fnExactSeqDiffWrong : ChangeSpec := { name := "fnExactSeqDiff", fn := fun _ => fun
  | [d1, d2] => { results := [.lit (.bool false)], args := [d1, d2] }
  | _ => none }
def FnExactSeqDiffWrongFalsely : Prop := fnExactSeqDiffRow.holds Try.pinned (OpenSpec.ofChange fnExactSeqDiffWrong)

/-- 'laws.FnExactSeqBelow': WHATEVER THE INPUT: true; the input reads as it did. -/
def fnExactSeqBelowSpec : ChangeSpec := { name := "fnExactSeqBelow", fn := fun _ => fun
  | [d1, d2] => { results := [.lit (.bool true)], args := [d1, d2] }
  | _ => none }
def fnExactSeqBelowRow : OpenClaim := { program := "ytfhdjefdbjnccaa", sum := "1e6fa4d7225277b565685830214fe286a4c2ab3bea8287ce98ad4a16f5251c7f", func := "loop.example/g00504/laws.FnExactSeqBelow", spec := "fnExactSeqBelow", apart := false }
def FnExactSeqBelowSaid : Prop := fnExactSeqBelowRow.holds Try.pinned (OpenSpec.ofChange fnExactSeqBelowSpec)

/-- ITS FALSE NEIGHBOUR: 'it returns false'. Refute it at one input. -/
def fnExactSeqBelowWrong : ChangeSpec := { name := "fnExactSeqBelow", fn := fun _ => fun
  | [d1, d2] => { results := [.lit (.bool false)], args := [d1, d2] }
  | _ => none }
def FnExactSeqBelowWrongFalsely : Prop := fnExactSeqBelowRow.holds Try.pinned (OpenSpec.ofChange fnExactSeqBelowWrong)

/-- 'laws.FnExactSeqUpTo': WHATEVER THE INPUT: true; the input reads as it did. -/
def fnExactSeqUpToSpec : ChangeSpec := { name := "fnExactSeqUpTo", fn := fun _ => fun
  | [d1, d2] => { results := [.lit (.bool true)], args := [d1, d2] }
  | _ => none }
def fnExactSeqUpToRow : OpenClaim := { program := "ytfhdjefdbjnccaa", sum := "1e6fa4d7225277b565685830214fe286a4c2ab3bea8287ce98ad4a16f5251c7f", func := "loop.example/g00504/laws.FnExactSeqUpTo", spec := "fnExactSeqUpTo", apart := false }
def FnExactSeqUpToSaid : Prop := fnExactSeqUpToRow.holds Try.pinned (OpenSpec.ofChange fnExactSeqUpToSpec)

/-- ITS FALSE NEIGHBOUR: 'it returns false'. Refute it at one input. -/
def fnExactSeqUpToWrong : ChangeSpec := { name := "fnExactSeqUpTo", fn := fun _ => fun
  | [d1, d2] => { results := [.lit (.bool false)], args := [d1, d2] }
  | _ => none }
def FnExactSeqUpToWrongFalsely : Prop := fnExactSeqUpToRow.holds Try.pinned (OpenSpec.ofChange fnExactSeqUpToWrong)

/-- 'laws.FnExactInWindow': WHATEVER THE INPUT: true; the input reads as it did. -/
def fnExactInWindowSpec : ChangeSpec := { name := "fnExactInWindow", fn := fun _ => fun
  | [d1, d2, d3] => { results := [.lit (.bool true)], args := [d1, d2, d3] }
  | _ => none }
def fnExactInWindowRow : OpenClaim := { program := "ytfhdjefdbjnccaa", sum := "1e6fa4d7225277b565685830214fe286a4c2ab3bea8287ce98ad4a16f5251c7f", func := "loop.example/g00504/laws.FnExactInWindow", spec := "fnExactInWindow", apart := false }
def FnExactInWindowSaid : Prop := fnExactInWindowRow.holds Try.pinned (OpenSpec.ofChange fnExactInWindowSpec)

/-- ITS FALSE NEIGHBOUR: 'it returns false'. Refute it at one input. -/
def fnExactInWindowWrong : ChangeSpec := { name := "fnExactInWindow", fn := fun _ => fun
  | [d1, d2, d3] => { results := [.lit (.bool false)], args := [d1, d2, d3] }
  | _ => none }
def FnExactInWindowWrongFalsely : Prop := fnExactInWindowRow.holds Try.pinned (OpenSpec.ofChange fnExactInWindowWrong)

/-- 'laws.FnExactOverlaps': WHATEVER THE INPUT: true; the input reads as it did. -/
def fnExactOverlapsSpec : ChangeSpec := { name := "fnExactOverlaps", fn := fun _ => fun
  | [d1, d2, d3, d4] => { results := [.lit (.bool true)], args := [d1, d2, d3, d4] }
  | _ => none }
def fnExactOverlapsRow : OpenClaim := { program := "ytfhdjefdbjnccaa", sum := "1e6fa4d7225277b565685830214fe286a4c2ab3bea8287ce98ad4a16f5251c7f", func := "loop.example/g00504/laws.FnExactOverlaps", spec := "fnExactOverlaps", apart := false }
def FnExactOverlapsSaid : Prop := fnExactOverlapsRow.holds Try.pinned (OpenSpec.ofChange fnExactOverlapsSpec)

/-- ITS FALSE NEIGHBOUR: 'it returns false'. Refute it at one input. -/
def fnExactOverlapsWrong : ChangeSpec := { name := "fnExactOverlaps", fn := fun _ => fun
  | [d1, d2, d3, d4] => { results := [.lit (.bool false)], args := [d1, d2, d3, d4] }
  | _ => none }
def FnExactOverlapsWrongFalsely : Prop := fnExactOverlapsRow.holds Try.pinned (OpenSpec.ofChange fnExactOverlapsWrong)

/- THE SECOND FORM. 'bulk': how many values and letters a reading holds, each counted each time it is reached (what is shared counts as often as it is met; a slice's spare places count too). A statement '..UptoSaid' is the law's where the arguments, and the package variables that the reading takes, are together of bulk at most 1048576: NARROWER than '..Said'. Prove '..Said' where nothing that the law and all that it calls make is longer than what came in: it says more and counts as full. Else prove '..UptoSaid'. A law counts once. -/
mutual
def uptoBulk {H : Type} : DataW H → Nat
  | .lit (.string bytes) => bytes.length + 1
  | .lit _ => 1
  | .nil => 1
  | .ptr d => uptoBulk d + 1
  | .slice elems spare => uptoBulkAll elems + uptoBulkAll spare + 1
  | .agg parts => uptoBulkAll parts + 1
  | .iface _ d => uptoBulk d + 1
  | .map entries => uptoBulkEntries entries + 1
  | .held _ => 1
def uptoBulkAll {H : Type} : List (DataW H) → Nat
  | [] => 0
  | d :: r => uptoBulk d + uptoBulkAll r
def uptoBulkEntries {H : Type} : List (Lit × DataW H) → Nat
  | [] => 0
  | x :: r => uptoBulkEntry x + uptoBulkEntries r
def uptoBulkEntry {H : Type} : Lit × DataW H → Nat
  | (.string bytes, d) => bytes.length + uptoBulk d + 1
  | (_, d) => uptoBulk d + 1
 end
def uptoSmall : (H : Type) → List (DataW H) → Bool := fun _ ds => decide (uptoBulkAll ds ≤ 1048576)
def OpenSpec.upto (s : _root_.Go.ChangeSpec) : _root_.Go.OpenSpec := { _root_.Go.OpenSpec.ofChange s with cond := some uptoSmall }

/-- 'laws.FnSeq', WHERE WHAT IT READS IS OF BULK AT MOST 1048576: true; the input reads as it did. -/
def fnSeqUptoRow : OpenClaim := { program := "ytfhdjefdbjnccaa", sum := "1e6fa4d7225277b565685830214fe286a4c2ab3bea8287ce98ad4a16f5251c7f", func := "loop.example/g00504/laws.FnSeq", spec := "fnSeq", apart := false, narrowed := true }
def FnSeqUptoSaid : Prop := fnSeqUptoRow.holds Try.pinned (OpenSpec.upto fnSeqSpec)

/-- 'laws.FnSeqOrder', WHERE WHAT IT READS IS OF BULK AT MOST 1048576: true; the input reads as it did. -/
def fnSeqOrderUptoRow : OpenClaim := { program := "ytfhdjefdbjnccaa", sum := "1e6fa4d7225277b565685830214fe286a4c2ab3bea8287ce98ad4a16f5251c7f", func := "loop.example/g00504/laws.FnSeqOrder", spec := "fnSeqOrder", apart := false, narrowed := true }
def FnSeqOrderUptoSaid : Prop := fnSeqOrderUptoRow.holds Try.pinned (OpenSpec.upto fnSeqOrderSpec)

/-- 'laws.FnWindow', WHERE WHAT IT READS IS OF BULK AT MOST 1048576: true; the input reads as it did. -/
def fnWindowUptoRow : OpenClaim := { program := "ytfhdjefdbjnccaa", sum := "1e6fa4d7225277b565685830214fe286a4c2ab3bea8287ce98ad4a16f5251c7f", func := "loop.example/g00504/laws.FnWindow", spec := "fnWindow", apart := false, narrowed := true }
def FnWindowUptoSaid : Prop := fnWindowUptoRow.holds Try.pinned (OpenSpec.upto fnWindowSpec)

/-- 'laws.FnExactSeqAdd', WHERE WHAT IT READS IS OF BULK AT MOST 1048576: true; the input reads as it did. -/
def fnExactSeqAddUptoRow : OpenClaim := { program := "ytfhdjefdbjnccaa", sum := "1e6fa4d7225277b565685830214fe286a4c2ab3bea8287ce98ad4a16f5251c7f", func := "loop.example/g00504/laws.FnExactSeqAdd", spec := "fnExactSeqAdd", apart := false, narrowed := true }
def FnExactSeqAddUptoSaid : Prop := fnExactSeqAddUptoRow.holds Try.pinned (OpenSpec.upto fnExactSeqAddSpec)

/-- 'laws.FnExactSeqDiff', WHERE WHAT IT READS IS OF BULK AT MOST 1048576: true; the input reads as it did. -/
def fnExactSeqDiffUptoRow : OpenClaim := { program := "ytfhdjefdbjnccaa", sum := "1e6fa4d7225277b565685830214fe286a4c2ab3bea8287ce98ad4a16f5251c7f", func := "loop.example/g00504/laws.FnExactSeqDiff", spec := "fnExactSeqDiff", apart := false, narrowed := true }
def FnExactSeqDiffUptoSaid : Prop := fnExactSeqDiffUptoRow.holds Try.pinned (OpenSpec.upto fnExactSeqDiffSpec)

/-- 'laws.FnExactSeqBelow', WHERE WHAT IT READS IS OF BULK AT MOST 1048576: true; the input reads as it did. -/
def fnExactSeqBelowUptoRow : OpenClaim := { program := "ytfhdjefdbjnccaa", sum := "1e6fa4d7225277b565685830214fe286a4c2ab3bea8287ce98ad4a16f5251c7f", func := "loop.example/g00504/laws.FnExactSeqBelow", spec := "fnExactSeqBelow", apart := false, narrowed := true }
def FnExactSeqBelowUptoSaid : Prop := fnExactSeqBelowUptoRow.holds Try.pinned (OpenSpec.upto fnExactSeqBelowSpec)

/-- 'laws.FnExactSeqUpTo', WHERE WHAT IT READS IS OF BULK AT MOST 1048576: true; the input reads as it did. -/
def fnExactSeqUpToUptoRow : OpenClaim := { program := "ytfhdjefdbjnccaa", sum := "1e6fa4d7225277b565685830214fe286a4c2ab3bea8287ce98ad4a16f5251c7f", func := "loop.example/g00504/laws.FnExactSeqUpTo", spec := "fnExactSeqUpTo", apart := false, narrowed := true }
def FnExactSeqUpToUptoSaid : Prop := fnExactSeqUpToUptoRow.holds Try.pinned (OpenSpec.upto fnExactSeqUpToSpec)

/-- 'laws.FnExactInWindow', WHERE WHAT IT READS IS OF BULK AT MOST 1048576: true; the input reads as it did. -/
def fnExactInWindowUptoRow : OpenClaim := { program := "ytfhdjefdbjnccaa", sum := "1e6fa4d7225277b565685830214fe286a4c2ab3bea8287ce98ad4a16f5251c7f", func := "loop.example/g00504/laws.FnExactInWindow", spec := "fnExactInWindow", apart := false, narrowed := true }
def FnExactInWindowUptoSaid : Prop := fnExactInWindowUptoRow.holds Try.pinned (OpenSpec.upto fnExactInWindowSpec)

/-- 'laws.FnExactOverlaps', WHERE WHAT IT READS IS OF BULK AT MOST 1048576: true; the input reads as it did. -/
def fnExactOverlapsUptoRow : OpenClaim := { program := "ytfhdjefdbjnccaa", sum := "1e6fa4d7225277b565685830214fe286a4c2ab3bea8287ce98ad4a16f5251c7f", func := "loop.example/g00504/laws.FnExactOverlaps", spec := "fnExactOverlaps", apart := false, narrowed := true }
def FnExactOverlapsUptoSaid : Prop := fnExactOverlapsUptoRow.holds Try.pinned (OpenSpec.upto fnExactOverlapsSpec)

end Rows
end Go.Proofs.Ytfhdjefdbjnccaa
