/-
  No cell of these rows narrows 'for every input' (looked for: loops, veiled, ifaces, maps, wideKeys, modest, calm, conditions, laid).
  DERIVED. THE GIVEN ROWS OF THIS SEAT. 7 by the template 'for every input the law returns true; each argument reads behind the call as it read before'; 0 by the template 'total and deterministic' (their statements: YtajekjjaaohbnaaTotals.lean).
  GIVEN WITH THE SEED: the statements are not yours to turn. If you find one false, say at which input.
  Laid BY PROGRAM, IN A SANDBOX (cutbox-rows.mjs): the forced cells as the released guide's own fill.sh prints them over the translation e55074f6427cab78… (all of the seat's roots in one cut). By AI agents, Wed Nov 11 2026. No macro, syntax, notation, axiom, sorry.
-/
import Derived.Test.YtajekjjaaohbnaaChecked
import GoSem.Claim
import GoSem.ClaimJoined
import GoSem.ClaimMapViews
import Derived.JoinedTies
import Derived.KernelRfl
namespace Go.Proofs.Ytajekjjaaohbnaa
/- THE CELL 'sum', in the pinned program and in every row, IS THE sha256 OF THE DUMP (.gsa) THAT YtajekjjaaohbnaaProg.lean LOADS. Nothing in Lean hashes anything: it is a label: what it is worth is what the hold of that sum in a sandbox is worth. -/
noncomputable def Try.pinned : Pinned := { name := "ytajekjjaaohbnaa", sum := "e55074f6427cab789d14cbded08010a918fcb6e7699781282f0bbb025e2fd562", checked := Try.checked }
namespace Rows
def none {H : Type} : Left H := { results := [], args := [] }

/-- 'laws.FnConnNew': WHATEVER THE INPUT: true; the input reads as it did. -/
def fnConnNewSpec : ChangeSpec := { name := "fnConnNew", fn := fun _ => fun
  | [d] => { results := [.lit (.bool true)], args := [d] }
  | _ => none }
def fnConnNewRow : OpenClaim := { program := "ytajekjjaaohbnaa", sum := "e55074f6427cab789d14cbded08010a918fcb6e7699781282f0bbb025e2fd562", func := "loop.example/g00504/laws.FnConnNew", spec := "fnConnNew", apart := false }
def FnConnNewSaid : Prop := fnConnNewRow.holds Try.pinned (OpenSpec.ofChange fnConnNewSpec)

/-- ITS FALSE NEIGHBOUR: 'it returns false'. Refute it at one input. -/
def fnConnNewWrong : ChangeSpec := { name := "fnConnNew", fn := fun _ => fun
  | [d] => { results := [.lit (.bool false)], args := [d] }
  | _ => none }
def FnConnNewWrongFalsely : Prop := fnConnNewRow.holds Try.pinned (OpenSpec.ofChange fnConnNewWrong)

/-- 'laws.FnExactConnNew': WHATEVER THE INPUT: true; the input reads as it did. -/
def fnExactConnNewSpec : ChangeSpec := { name := "fnExactConnNew", fn := fun _ => fun
  | [d1, d2, d3, d4, d5] => { results := [.lit (.bool true)], args := [d1, d2, d3, d4, d5] }
  | _ => none }
def fnExactConnNewRow : OpenClaim := { program := "ytajekjjaaohbnaa", sum := "e55074f6427cab789d14cbded08010a918fcb6e7699781282f0bbb025e2fd562", func := "loop.example/g00504/laws.FnExactConnNew", spec := "fnExactConnNew", apart := false }
def FnExactConnNewSaid : Prop := fnExactConnNewRow.holds Try.pinned (OpenSpec.ofChange fnExactConnNewSpec)

/-- ITS FALSE NEIGHBOUR: 'it returns false'. Refute it at one input. -/
def fnExactConnNewWrong : ChangeSpec := { name := "fnExactConnNew", fn := fun _ => fun
  | [d1, d2, d3, d4, d5] => { results := [.lit (.bool false)], args := [d1, d2, d3, d4, d5] }
  | _ => none }
def FnExactConnNewWrongFalsely : Prop := fnExactConnNewRow.holds Try.pinned (OpenSpec.ofChange fnExactConnNewWrong)

/-- 'laws.FnExactConnOk': WHATEVER THE INPUT: true; the input reads as it did. -/
def fnExactConnOkSpec : ChangeSpec := { name := "fnExactConnOk", fn := fun _ => fun
  | [d] => { results := [.lit (.bool true)], args := [d] }
  | _ => none }
def fnExactConnOkRow : OpenClaim := { program := "ytajekjjaaohbnaa", sum := "e55074f6427cab789d14cbded08010a918fcb6e7699781282f0bbb025e2fd562", func := "loop.example/g00504/laws.FnExactConnOk", spec := "fnExactConnOk", apart := false }
def FnExactConnOkSaid : Prop := fnExactConnOkRow.holds Try.pinned (OpenSpec.ofChange fnExactConnOkSpec)

/-- ITS FALSE NEIGHBOUR: 'it returns false'. Refute it at one input. -/
def fnExactConnOkWrong : ChangeSpec := { name := "fnExactConnOk", fn := fun _ => fun
  | [d] => { results := [.lit (.bool false)], args := [d] }
  | _ => none }
def FnExactConnOkWrongFalsely : Prop := fnExactConnOkRow.holds Try.pinned (OpenSpec.ofChange fnExactConnOkWrong)

/-- 'laws.FnExactSameConn': WHATEVER THE INPUT: true; the input reads as it did. -/
def fnExactSameConnSpec : ChangeSpec := { name := "fnExactSameConn", fn := fun _ => fun
  | [d1, d2] => { results := [.lit (.bool true)], args := [d1, d2] }
  | _ => none }
def fnExactSameConnRow : OpenClaim := { program := "ytajekjjaaohbnaa", sum := "e55074f6427cab789d14cbded08010a918fcb6e7699781282f0bbb025e2fd562", func := "loop.example/g00504/laws.FnExactSameConn", spec := "fnExactSameConn", unfollowed := true, recurses := true, apart := false }
def FnExactSameConnSaid : Prop := fnExactSameConnRow.holds Try.pinned (OpenSpec.ofChange fnExactSameConnSpec)

/-- ITS FALSE NEIGHBOUR: 'it returns false'. Refute it at one input. -/
def fnExactSameConnWrong : ChangeSpec := { name := "fnExactSameConn", fn := fun _ => fun
  | [d1, d2] => { results := [.lit (.bool false)], args := [d1, d2] }
  | _ => none }
def FnExactSameConnWrongFalsely : Prop := fnExactSameConnRow.holds Try.pinned (OpenSpec.ofChange fnExactSameConnWrong)

/-- 'laws.FnExactAckOf': WHATEVER THE INPUT: true; the input reads as it did. -/
def fnExactAckOfSpec : ChangeSpec := { name := "fnExactAckOf", fn := fun _ => fun
  | [d] => { results := [.lit (.bool true)], args := [d] }
  | _ => none }
def fnExactAckOfRow : OpenClaim := { program := "ytajekjjaaohbnaa", sum := "e55074f6427cab789d14cbded08010a918fcb6e7699781282f0bbb025e2fd562", func := "loop.example/g00504/laws.FnExactAckOf", spec := "fnExactAckOf", apart := false }
def FnExactAckOfSaid : Prop := fnExactAckOfRow.holds Try.pinned (OpenSpec.ofChange fnExactAckOfSpec)

/-- ITS FALSE NEIGHBOUR: 'it returns false'. Refute it at one input. -/
def fnExactAckOfWrong : ChangeSpec := { name := "fnExactAckOf", fn := fun _ => fun
  | [d] => { results := [.lit (.bool false)], args := [d] }
  | _ => none }
def FnExactAckOfWrongFalsely : Prop := fnExactAckOfRow.holds Try.pinned (OpenSpec.ofChange fnExactAckOfWrong)

/-- 'laws.FnExactStateWord': WHATEVER THE INPUT: true; the input reads as it did. -/
def fnExactStateWordSpec : ChangeSpec := { name := "fnExactStateWord", fn := fun _ => fun
  | [d] => { results := [.lit (.bool true)], args := [d] }
  | _ => none }
def fnExactStateWordRow : OpenClaim := { program := "ytajekjjaaohbnaa", sum := "e55074f6427cab789d14cbded08010a918fcb6e7699781282f0bbb025e2fd562", func := "loop.example/g00504/laws.FnExactStateWord", spec := "fnExactStateWord", apart := false }
def FnExactStateWordSaid : Prop := fnExactStateWordRow.holds Try.pinned (OpenSpec.ofChange fnExactStateWordSpec)

/-- ITS FALSE NEIGHBOUR: 'it returns false'. Refute it at one input. -/
def fnExactStateWordWrong : ChangeSpec := { name := "fnExactStateWord", fn := fun _ => fun
  | [d] => { results := [.lit (.bool false)], args := [d] }
  | _ => none }
def FnExactStateWordWrongFalsely : Prop := fnExactStateWordRow.holds Try.pinned (OpenSpec.ofChange fnExactStateWordWrong)

/-- 'laws.FnExactMssFor': WHATEVER THE INPUT: true; the input reads as it did. -/
def fnExactMssForSpec : ChangeSpec := { name := "fnExactMssFor", fn := fun _ => fun
  | [d] => { results := [.lit (.bool true)], args := [d] }
  | _ => none }
def fnExactMssForRow : OpenClaim := { program := "ytajekjjaaohbnaa", sum := "e55074f6427cab789d14cbded08010a918fcb6e7699781282f0bbb025e2fd562", func := "loop.example/g00504/laws.FnExactMssFor", spec := "fnExactMssFor", apart := false }
def FnExactMssForSaid : Prop := fnExactMssForRow.holds Try.pinned (OpenSpec.ofChange fnExactMssForSpec)

/-- ITS FALSE NEIGHBOUR: 'it returns false'. Refute it at one input. -/
def fnExactMssForWrong : ChangeSpec := { name := "fnExactMssFor", fn := fun _ => fun
  | [d] => { results := [.lit (.bool false)], args := [d] }
  | _ => none }
def FnExactMssForWrongFalsely : Prop := fnExactMssForRow.holds Try.pinned (OpenSpec.ofChange fnExactMssForWrong)

/- THE SECOND FORM. 'bulk': how many values and letters a reading holds, each counted each time it is reached (what is shared counts as often as it is met; a slice's spare places count too). A statement '..UptoSaid' is the law's where the arguments, and the package variables that the reading takes, are together of bulk at most 1048576: NARROWER than '..Said'. Prove '..Said' where nothing that the law and all that it calls make is longer than what came in: it says more and counts as full. Else prove '..UptoSaid'. A law counts once. -/
mutual
def uptoBulk {H : Type} : DataW H → Nat
  | .lit (.string bytes) => bytes.length + 1
  | .lit _ => 1
  | .nil => 1
  | .ptr d => uptoBulk d + 1
  | .slice elems spare => uptoBulkAll elems + uptoBulkAll spare + 1
  | .agg parts => uptoBulkAll parts + 1
  | .iface _ d => uptoBulk d + 1
  | .map entries => uptoBulkEntries entries + 1
  | .held _ => 1
def uptoBulkAll {H : Type} : List (DataW H) → Nat
  | [] => 0
  | d :: r => uptoBulk d + uptoBulkAll r
def uptoBulkEntries {H : Type} : List (Lit × DataW H) → Nat
  | [] => 0
  | x :: r => uptoBulkEntry x + uptoBulkEntries r
def uptoBulkEntry {H : Type} : Lit × DataW H → Nat
  | (.string bytes, d) => bytes.length + uptoBulk d + 1
  | (_, d) => uptoBulk d + 1
 end
def uptoSmall : (H : Type) → List (DataW H) → Bool := fun _ ds => decide (uptoBulkAll ds ≤ 1048576)
def OpenSpec.upto (s : _root_.Go.ChangeSpec) : _root_.Go.OpenSpec := { _root_.Go.OpenSpec.ofChange s with cond := some uptoSmall }

/-- 'laws.FnConnNew', WHERE WHAT IT READS IS OF BULK AT MOST 1048576: true; the input reads as it did. -/
def fnConnNewUptoRow : OpenClaim := { program := "ytajekjjaaohbnaa", sum := "e55074f6427cab789d14cbded08010a918fcb6e7699781282f0bbb025e2fd562", func := "loop.example/g00504/laws.FnConnNew", spec := "fnConnNew", apart := false, narrowed := true }
def FnConnNewUptoSaid : Prop := fnConnNewUptoRow.holds Try.pinned (OpenSpec.upto fnConnNewSpec)

/-- 'laws.FnExactConnNew', WHERE WHAT IT READS IS OF BULK AT MOST 1048576: true; the input reads as it did. -/
def fnExactConnNewUptoRow : OpenClaim := { program := "ytajekjjaaohbnaa", sum := "e55074f6427cab789d14cbded08010a918fcb6e7699781282f0bbb025e2fd562", func := "loop.example/g00504/laws.FnExactConnNew", spec := "fnExactConnNew", apart := false, narrowed := true }
def FnExactConnNewUptoSaid : Prop := fnExactConnNewUptoRow.holds Try.pinned (OpenSpec.upto fnExactConnNewSpec)

/-- 'laws.FnExactConnOk', WHERE WHAT IT READS IS OF BULK AT MOST 1048576: true; the input reads as it did. -/
def fnExactConnOkUptoRow : OpenClaim := { program := "ytajekjjaaohbnaa", sum := "e55074f6427cab789d14cbded08010a918fcb6e7699781282f0bbb025e2fd562", func := "loop.example/g00504/laws.FnExactConnOk", spec := "fnExactConnOk", apart := false, narrowed := true }
def FnExactConnOkUptoSaid : Prop := fnExactConnOkUptoRow.holds Try.pinned (OpenSpec.upto fnExactConnOkSpec)

/-- 'laws.FnExactSameConn', WHERE WHAT IT READS IS OF BULK AT MOST 1048576: true; the input reads as it did. -/
def fnExactSameConnUptoRow : OpenClaim := { program := "ytajekjjaaohbnaa", sum := "e55074f6427cab789d14cbded08010a918fcb6e7699781282f0bbb025e2fd562", func := "loop.example/g00504/laws.FnExactSameConn", spec := "fnExactSameConn", unfollowed := true, recurses := true, apart := false, narrowed := true }
def FnExactSameConnUptoSaid : Prop := fnExactSameConnUptoRow.holds Try.pinned (OpenSpec.upto fnExactSameConnSpec)

/-- 'laws.FnExactAckOf', WHERE WHAT IT READS IS OF BULK AT MOST 1048576: true; the input reads as it did. -/
def fnExactAckOfUptoRow : OpenClaim := { program := "ytajekjjaaohbnaa", sum := "e55074f6427cab789d14cbded08010a918fcb6e7699781282f0bbb025e2fd562", func := "loop.example/g00504/laws.FnExactAckOf", spec := "fnExactAckOf", apart := false, narrowed := true }
def FnExactAckOfUptoSaid : Prop := fnExactAckOfUptoRow.holds Try.pinned (OpenSpec.upto fnExactAckOfSpec)

/-- 'laws.FnExactStateWord', WHERE WHAT IT READS IS OF BULK AT MOST 1048576: true; the input reads as it did. -/
def fnExactStateWordUptoRow : OpenClaim := { program := "ytajekjjaaohbnaa", sum := "e55074f6427cab789d14cbded08010a918fcb6e7699781282f0bbb025e2fd562", func := "loop.example/g00504/laws.FnExactStateWord", spec := "fnExactStateWord", apart := false, narrowed := true }
def FnExactStateWordUptoSaid : Prop := fnExactStateWordUptoRow.holds Try.pinned (OpenSpec.upto fnExactStateWordSpec)

/-- 'laws.FnExactMssFor', WHERE WHAT IT READS IS OF BULK AT MOST 1048576: true; the input reads as it did. -/
def fnExactMssForUptoRow : OpenClaim := { program := "ytajekjjaaohbnaa", sum := "e55074f6427cab789d14cbded08010a918fcb6e7699781282f0bbb025e2fd562", func := "loop.example/g00504/laws.FnExactMssFor", spec := "fnExactMssFor", apart := false, narrowed := true }
def FnExactMssForUptoSaid : Prop := fnExactMssForUptoRow.holds Try.pinned (OpenSpec.upto fnExactMssForSpec)

end Rows
end Go.Proofs.Ytajekjjaaohbnaa
