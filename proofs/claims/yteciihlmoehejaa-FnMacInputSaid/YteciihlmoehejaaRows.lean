/-
  No cell of these rows narrows 'for every input' (looked for: loops, veiled, ifaces, maps, wideKeys, modest, calm, conditions, laid).
  DERIVED. THE GIVEN ROWS OF THIS SEAT. 7 by the template 'for every input the law returns true; each argument reads behind the call as it read before'; 0 by the template 'total and deterministic' (their statements: YteciihlmoehejaaTotals.lean).
  GIVEN WITH THE SEED: the statements are not yours to turn. If you find one false, say at which input.
  Laid BY PROGRAM, IN A SANDBOX (cutbox-rows.mjs): the forced cells as the released guide's own fill.sh prints them over the translation 94a2b763ab093299… (all of the seat's roots in one cut). By AI agents, Wed Nov 11 2026. No macro, syntax, notation, axiom, sorry.
-/
import Derived.Test.YteciihlmoehejaaChecked
import GoSem.Claim
import GoSem.ClaimJoined
import GoSem.ClaimMapViews
import Derived.JoinedTies
import Derived.KernelRfl
namespace Go.Proofs.Yteciihlmoehejaa
/- THE CELL 'sum', in the pinned program and in every row, IS THE sha256 OF THE DUMP (.gsa) THAT YteciihlmoehejaaProg.lean LOADS. Nothing in Lean hashes anything: it is a label: what it is worth is what the hold of that sum in a sandbox is worth. -/
noncomputable def Try.pinned : Pinned := { name := "yteciihlmoehejaa", sum := "94a2b763ab093299f9a284c3a6abad9b482a80cb89cc87861761ba187d83828a", checked := Try.checked }
namespace Rows
def none {H : Type} : Left H := { results := [], args := [] }

/-- 'laws.FnMacInput': WHATEVER THE INPUT: true; the input reads as it did. -/
def fnMacInputSpec : ChangeSpec := { name := "fnMacInput", fn := fun _ => fun
  | [d] => { results := [.lit (.bool true)], args := [d] }
  | _ => none }
def fnMacInputRow : OpenClaim := { program := "yteciihlmoehejaa", sum := "94a2b763ab093299f9a284c3a6abad9b482a80cb89cc87861761ba187d83828a", func := "loop.example/g00504/laws.FnMacInput", spec := "fnMacInput", apart := false }
def FnMacInputSaid : Prop := fnMacInputRow.holds Try.pinned (OpenSpec.ofChange fnMacInputSpec)

/-- ITS FALSE NEIGHBOUR: 'it returns false'. Refute it at one input. -/
def fnMacInputWrong : ChangeSpec := { name := "fnMacInput", fn := fun _ => fun
  | [d] => { results := [.lit (.bool false)], args := [d] }
  | _ => none }
def FnMacInputWrongFalsely : Prop := fnMacInputRow.holds Try.pinned (OpenSpec.ofChange fnMacInputWrong)

/-- 'laws.FnMss': WHATEVER THE INPUT: true; the input reads as it did. -/
def fnMssSpec : ChangeSpec := { name := "fnMss", fn := fun _ => fun
  | [d] => { results := [.lit (.bool true)], args := [d] }
  | _ => none }
def fnMssRow : OpenClaim := { program := "yteciihlmoehejaa", sum := "94a2b763ab093299f9a284c3a6abad9b482a80cb89cc87861761ba187d83828a", func := "loop.example/g00504/laws.FnMss", spec := "fnMss", apart := false }
def FnMssSaid : Prop := fnMssRow.holds Try.pinned (OpenSpec.ofChange fnMssSpec)

/-- ITS FALSE NEIGHBOUR: 'it returns false'. Refute it at one input. -/
def fnMssWrong : ChangeSpec := { name := "fnMss", fn := fun _ => fun
  | [d] => { results := [.lit (.bool false)], args := [d] }
  | _ => none }
def FnMssWrongFalsely : Prop := fnMssRow.holds Try.pinned (OpenSpec.ofChange fnMssWrong)

/-- 'laws.FnExactTupleOk': WHATEVER THE INPUT: true; the input reads as it did. -/
def fnExactTupleOkSpec : ChangeSpec := { name := "fnExactTupleOk", fn := fun _ => fun
  | [d] => { results := [.lit (.bool true)], args := [d] }
  | _ => none }
def fnExactTupleOkRow : OpenClaim := { program := "yteciihlmoehejaa", sum := "94a2b763ab093299f9a284c3a6abad9b482a80cb89cc87861761ba187d83828a", func := "loop.example/g00504/laws.FnExactTupleOk", spec := "fnExactTupleOk", apart := false }
def FnExactTupleOkSaid : Prop := fnExactTupleOkRow.holds Try.pinned (OpenSpec.ofChange fnExactTupleOkSpec)

/-- ITS FALSE NEIGHBOUR: 'it returns false'. Refute it at one input. -/
def fnExactTupleOkWrong : ChangeSpec := { name := "fnExactTupleOk", fn := fun _ => fun
  | [d] => { results := [.lit (.bool false)], args := [d] }
  | _ => none }
def FnExactTupleOkWrongFalsely : Prop := fnExactTupleOkRow.holds Try.pinned (OpenSpec.ofChange fnExactTupleOkWrong)

/-- 'laws.FnExactTupleOf': WHATEVER THE INPUT: true; the input reads as it did. -/
def fnExactTupleOfSpec : ChangeSpec := { name := "fnExactTupleOf", fn := fun _ => fun
  | [d1, d2] => { results := [.lit (.bool true)], args := [d1, d2] }
  | _ => none }
def fnExactTupleOfRow : OpenClaim := { program := "yteciihlmoehejaa", sum := "94a2b763ab093299f9a284c3a6abad9b482a80cb89cc87861761ba187d83828a", func := "loop.example/g00504/laws.FnExactTupleOf", spec := "fnExactTupleOf", apart := false }
def FnExactTupleOfSaid : Prop := fnExactTupleOfRow.holds Try.pinned (OpenSpec.ofChange fnExactTupleOfSpec)

/-- ITS FALSE NEIGHBOUR: 'it returns false'. Refute it at one input. -/
def fnExactTupleOfWrong : ChangeSpec := { name := "fnExactTupleOf", fn := fun _ => fun
  | [d1, d2] => { results := [.lit (.bool false)], args := [d1, d2] }
  | _ => none }
def FnExactTupleOfWrongFalsely : Prop := fnExactTupleOfRow.holds Try.pinned (OpenSpec.ofChange fnExactTupleOfWrong)

/-- 'laws.FnExactMssOf': WHATEVER THE INPUT: true; the input reads as it did. -/
def fnExactMssOfSpec : ChangeSpec := { name := "fnExactMssOf", fn := fun _ => fun
  | [d] => { results := [.lit (.bool true)], args := [d] }
  | _ => none }
def fnExactMssOfRow : OpenClaim := { program := "yteciihlmoehejaa", sum := "94a2b763ab093299f9a284c3a6abad9b482a80cb89cc87861761ba187d83828a", func := "loop.example/g00504/laws.FnExactMssOf", spec := "fnExactMssOf", apart := false }
def FnExactMssOfSaid : Prop := fnExactMssOfRow.holds Try.pinned (OpenSpec.ofChange fnExactMssOfSpec)

/-- ITS FALSE NEIGHBOUR: 'it returns false'. Refute it at one input. -/
def fnExactMssOfWrong : ChangeSpec := { name := "fnExactMssOf", fn := fun _ => fun
  | [d] => { results := [.lit (.bool false)], args := [d] }
  | _ => none }
def FnExactMssOfWrongFalsely : Prop := fnExactMssOfRow.holds Try.pinned (OpenSpec.ofChange fnExactMssOfWrong)

/-- 'laws.FnExactMssIndex': WHATEVER THE INPUT: true; the input reads as it did. -/
def fnExactMssIndexSpec : ChangeSpec := { name := "fnExactMssIndex", fn := fun _ => fun
  | [d] => { results := [.lit (.bool true)], args := [d] }
  | _ => none }
def fnExactMssIndexRow : OpenClaim := { program := "yteciihlmoehejaa", sum := "94a2b763ab093299f9a284c3a6abad9b482a80cb89cc87861761ba187d83828a", func := "loop.example/g00504/laws.FnExactMssIndex", spec := "fnExactMssIndex", apart := false }
def FnExactMssIndexSaid : Prop := fnExactMssIndexRow.holds Try.pinned (OpenSpec.ofChange fnExactMssIndexSpec)

/-- ITS FALSE NEIGHBOUR: 'it returns false'. Refute it at one input. -/
def fnExactMssIndexWrong : ChangeSpec := { name := "fnExactMssIndex", fn := fun _ => fun
  | [d] => { results := [.lit (.bool false)], args := [d] }
  | _ => none }
def FnExactMssIndexWrongFalsely : Prop := fnExactMssIndexRow.holds Try.pinned (OpenSpec.ofChange fnExactMssIndexWrong)

/-- 'laws.FnExactMacInput': WHATEVER THE INPUT: true; the input reads as it did. -/
def fnExactMacInputSpec : ChangeSpec := { name := "fnExactMacInput", fn := fun _ => fun
  | [d1, d2, d3, d4] => { results := [.lit (.bool true)], args := [d1, d2, d3, d4] }
  | _ => none }
def fnExactMacInputRow : OpenClaim := { program := "yteciihlmoehejaa", sum := "94a2b763ab093299f9a284c3a6abad9b482a80cb89cc87861761ba187d83828a", func := "loop.example/g00504/laws.FnExactMacInput", spec := "fnExactMacInput", apart := false }
def FnExactMacInputSaid : Prop := fnExactMacInputRow.holds Try.pinned (OpenSpec.ofChange fnExactMacInputSpec)

/-- ITS FALSE NEIGHBOUR: 'it returns false'. Refute it at one input. -/
def fnExactMacInputWrong : ChangeSpec := { name := "fnExactMacInput", fn := fun _ => fun
  | [d1, d2, d3, d4] => { results := [.lit (.bool false)], args := [d1, d2, d3, d4] }
  | _ => none }
def FnExactMacInputWrongFalsely : Prop := fnExactMacInputRow.holds Try.pinned (OpenSpec.ofChange fnExactMacInputWrong)

/- THE SECOND FORM. 'bulk': how many values and letters a reading holds, each counted each time it is reached (what is shared counts as often as it is met; a slice's spare places count too). A statement '..UptoSaid' is the law's where the arguments, and the package variables that the reading takes, are together of bulk at most 1048576: NARROWER than '..Said'. Prove '..Said' where nothing that the law and all that it calls make is longer than what came in: it says more and counts as full. Else prove '..UptoSaid'. A law counts once. -/
mutual
def uptoBulk {H : Type} : DataW H → Nat
  | .lit (.string bytes) => bytes.length + 1
  | .lit _ => 1
  | .nil => 1
  | .ptr d => uptoBulk d + 1
  | .slice elems spare => uptoBulkAll elems + uptoBulkAll spare + 1
  | .agg parts => uptoBulkAll parts + 1
  | .iface _ d => uptoBulk d + 1
  | .map entries => uptoBulkEntries entries + 1
  | .held _ => 1
def uptoBulkAll {H : Type} : List (DataW H) → Nat
  | [] => 0
  | d :: r => uptoBulk d + uptoBulkAll r
def uptoBulkEntries {H : Type} : List (Lit × DataW H) → Nat
  | [] => 0
  | x :: r => uptoBulkEntry x + uptoBulkEntries r
def uptoBulkEntry {H : Type} : Lit × DataW H → Nat
  | (.string bytes, d) => bytes.length + uptoBulk d + 1
  | (_, d) => uptoBulk d + 1
 end
def uptoSmall : (H : Type) → List (DataW H) → Bool := fun _ ds => decide (uptoBulkAll ds ≤ 1048576)
def OpenSpec.upto (s : _root_.Go.ChangeSpec) : _root_.Go.OpenSpec := { _root_.Go.OpenSpec.ofChange s with cond := some uptoSmall }

/-- 'laws.FnMacInput', WHERE WHAT IT READS IS OF BULK AT MOST 1048576: true; the input reads as it did. -/
def fnMacInputUptoRow : OpenClaim := { program := "yteciihlmoehejaa", sum := "94a2b763ab093299f9a284c3a6abad9b482a80cb89cc87861761ba187d83828a", func := "loop.example/g00504/laws.FnMacInput", spec := "fnMacInput", apart := false, narrowed := true }
def FnMacInputUptoSaid : Prop := fnMacInputUptoRow.holds Try.pinned (OpenSpec.upto fnMacInputSpec)

/-- 'laws.FnMss', WHERE WHAT IT READS IS OF BULK AT MOST 1048576: true; the input reads as it did. -/
def fnMssUptoRow : OpenClaim := { program := "yteciihlmoehejaa", sum := "94a2b763ab093299f9a284c3a6abad9b482a80cb89cc87861761ba187d83828a", func := "loop.example/g00504/laws.FnMss", spec := "fnMss", apart := false, narrowed := true }
def FnMssUptoSaid : Prop := fnMssUptoRow.holds Try.pinned (OpenSpec.upto fnMssSpec)

/-- 'laws.FnExactTupleOk', WHERE WHAT IT READS IS OF BULK AT MOST 1048576: true; the input reads as it did. -/
def fnExactTupleOkUptoRow : OpenClaim := { program := "yteciihlmoehejaa", sum := "94a2b763ab093299f9a284c3a6abad9b482a80cb89cc87861761ba187d83828a", func := "loop.example/g00504/laws.FnExactTupleOk", spec := "fnExactTupleOk", apart := false, narrowed := true }
def FnExactTupleOkUptoSaid : Prop := fnExactTupleOkUptoRow.holds Try.pinned (OpenSpec.upto fnExactTupleOkSpec)

/-- 'laws.FnExactTupleOf', WHERE WHAT IT READS IS OF BULK AT MOST 1048576: true; the input reads as it did. -/
def fnExactTupleOfUptoRow : OpenClaim := { program := "yteciihlmoehejaa", sum := "94a2b763ab093299f9a284c3a6abad9b482a80cb89cc87861761ba187d83828a", func := "loop.example/g00504/laws.FnExactTupleOf", spec := "fnExactTupleOf", apart := false, narrowed := true }
def FnExactTupleOfUptoSaid : Prop := fnExactTupleOfUptoRow.holds Try.pinned (OpenSpec.upto fnExactTupleOfSpec)

/-- 'laws.FnExactMssOf', WHERE WHAT IT READS IS OF BULK AT MOST 1048576: true; the input reads as it did. -/
def fnExactMssOfUptoRow : OpenClaim := { program := "yteciihlmoehejaa", sum := "94a2b763ab093299f9a284c3a6abad9b482a80cb89cc87861761ba187d83828a", func := "loop.example/g00504/laws.FnExactMssOf", spec := "fnExactMssOf", apart := false, narrowed := true }
def FnExactMssOfUptoSaid : Prop := fnExactMssOfUptoRow.holds Try.pinned (OpenSpec.upto fnExactMssOfSpec)

/-- 'laws.FnExactMssIndex', WHERE WHAT IT READS IS OF BULK AT MOST 1048576: true; the input reads as it did. -/
def fnExactMssIndexUptoRow : OpenClaim := { program := "yteciihlmoehejaa", sum := "94a2b763ab093299f9a284c3a6abad9b482a80cb89cc87861761ba187d83828a", func := "loop.example/g00504/laws.FnExactMssIndex", spec := "fnExactMssIndex", apart := false, narrowed := true }
def FnExactMssIndexUptoSaid : Prop := fnExactMssIndexUptoRow.holds Try.pinned (OpenSpec.upto fnExactMssIndexSpec)

/-- 'laws.FnExactMacInput', WHERE WHAT IT READS IS OF BULK AT MOST 1048576: true; the input reads as it did. -/
def fnExactMacInputUptoRow : OpenClaim := { program := "yteciihlmoehejaa", sum := "94a2b763ab093299f9a284c3a6abad9b482a80cb89cc87861761ba187d83828a", func := "loop.example/g00504/laws.FnExactMacInput", spec := "fnExactMacInput", apart := false, narrowed := true }
def FnExactMacInputUptoSaid : Prop := fnExactMacInputUptoRow.holds Try.pinned (OpenSpec.upto fnExactMacInputSpec)

end Rows
end Go.Proofs.Yteciihlmoehejaa
