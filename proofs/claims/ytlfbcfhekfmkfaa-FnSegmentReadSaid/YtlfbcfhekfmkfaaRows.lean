/-
  No cell of these rows narrows 'for every input' (looked for: loops, veiled, ifaces, maps, wideKeys, modest, calm, conditions, laid).
  DERIVED. THE GIVEN ROWS OF THIS SEAT. 7 by the template 'for every input the law returns true; each argument reads behind the call as it read before'; 0 by the template 'total and deterministic' (their statements: YtlfbcfhekfmkfaaTotals.lean).
  GIVEN WITH THE SEED: the statements are not yours to turn. If you find one false, say at which input.
  Laid BY PROGRAM, IN A SANDBOX (cutbox-rows.mjs): the forced cells as the released guide's own fill.sh prints them over the translation ac6a2b8caef44876… (all of the seat's roots in one cut). By AI agents, Wed Nov 11 2026. No macro, syntax, notation, axiom, sorry.
-/
import Derived.Test.YtlfbcfhekfmkfaaChecked
import GoSem.Claim
import GoSem.ClaimJoined
import GoSem.ClaimMapViews
import Derived.JoinedTies
import Derived.KernelRfl
namespace Go.Proofs.Ytlfbcfhekfmkfaa
/- THE CELL 'sum', in the pinned program and in every row, IS THE sha256 OF THE DUMP (.gsa) THAT YtlfbcfhekfmkfaaProg.lean LOADS. Nothing in Lean hashes anything: it is a label: what it is worth is what the hold of that sum in a sandbox is worth. -/
noncomputable def Try.pinned : Pinned := { name := "ytlfbcfhekfmkfaa", sum := "ac6a2b8caef44876e598499270797844ee2c1ab62a0b4c8b6a4e7fc465c77ade", checked := Try.checked }
namespace Rows
def none {H : Type} : Left H := { results := [], args := [] }

/-- 'laws.FnSegment': WHATEVER THE INPUT: true; the input reads as it did. -/
def fnSegmentSpec : ChangeSpec := { name := "fnSegment", fn := fun _ => fun
  | [d] => { results := [.lit (.bool true)], args := [d] }
  | _ => none }
def fnSegmentRow : OpenClaim := { program := "ytlfbcfhekfmkfaa", sum := "ac6a2b8caef44876e598499270797844ee2c1ab62a0b4c8b6a4e7fc465c77ade", func := "loop.example/g00504/laws.FnSegment", spec := "fnSegment", apart := false }
def FnSegmentSaid : Prop := fnSegmentRow.holds Try.pinned (OpenSpec.ofChange fnSegmentSpec)

/-- ITS FALSE NEIGHBOUR: 'it returns false'. Refute it at one input. -/
def fnSegmentWrong : ChangeSpec := { name := "fnSegment", fn := fun _ => fun
  | [d] => { results := [.lit (.bool false)], args := [d] }
  | _ => none }
def FnSegmentWrongFalsely : Prop := fnSegmentRow.holds Try.pinned (OpenSpec.ofChange fnSegmentWrong)

/-- 'laws.FnSegmentRead': WHATEVER THE INPUT: true; the input reads as it did. -/
def fnSegmentReadSpec : ChangeSpec := { name := "fnSegmentRead", fn := fun _ => fun
  | [d] => { results := [.lit (.bool true)], args := [d] }
  | _ => none }
def fnSegmentReadRow : OpenClaim := { program := "ytlfbcfhekfmkfaa", sum := "ac6a2b8caef44876e598499270797844ee2c1ab62a0b4c8b6a4e7fc465c77ade", func := "loop.example/g00504/laws.FnSegmentRead", spec := "fnSegmentRead", apart := false }
def FnSegmentReadSaid : Prop := fnSegmentReadRow.holds Try.pinned (OpenSpec.ofChange fnSegmentReadSpec)

/-- ITS FALSE NEIGHBOUR: 'it returns false'. Refute it at one input. -/
def fnSegmentReadWrong : ChangeSpec := { name := "fnSegmentRead", fn := fun _ => fun
  | [d] => { results := [.lit (.bool false)], args := [d] }
  | _ => none }
def FnSegmentReadWrongFalsely : Prop := fnSegmentReadRow.holds Try.pinned (OpenSpec.ofChange fnSegmentReadWrong)

/-- 'laws.FnExactSegmentOk': WHATEVER THE INPUT: true; the input reads as it did. -/
def fnExactSegmentOkSpec : ChangeSpec := { name := "fnExactSegmentOk", fn := fun _ => fun
  | [d] => { results := [.lit (.bool true)], args := [d] }
  | _ => none }
def fnExactSegmentOkRow : OpenClaim := { program := "ytlfbcfhekfmkfaa", sum := "ac6a2b8caef44876e598499270797844ee2c1ab62a0b4c8b6a4e7fc465c77ade", func := "loop.example/g00504/laws.FnExactSegmentOk", spec := "fnExactSegmentOk", apart := false }
def FnExactSegmentOkSaid : Prop := fnExactSegmentOkRow.holds Try.pinned (OpenSpec.ofChange fnExactSegmentOkSpec)

/-- ITS FALSE NEIGHBOUR: 'it returns false'. Refute it at one input. -/
def fnExactSegmentOkWrong : ChangeSpec := { name := "fnExactSegmentOk", fn := fun _ => fun
  | [d] => { results := [.lit (.bool false)], args := [d] }
  | _ => none }
def FnExactSegmentOkWrongFalsely : Prop := fnExactSegmentOkRow.holds Try.pinned (OpenSpec.ofChange fnExactSegmentOkWrong)

/-- 'laws.FnExactSegmentText': WHATEVER THE INPUT: true; the input reads as it did. -/
def fnExactSegmentTextSpec : ChangeSpec := { name := "fnExactSegmentText", fn := fun _ => fun
  | [d1, d2, d3] => { results := [.lit (.bool true)], args := [d1, d2, d3] }
  | _ => none }
def fnExactSegmentTextRow : OpenClaim := { program := "ytlfbcfhekfmkfaa", sum := "ac6a2b8caef44876e598499270797844ee2c1ab62a0b4c8b6a4e7fc465c77ade", func := "loop.example/g00504/laws.FnExactSegmentText", spec := "fnExactSegmentText", apart := false }
def FnExactSegmentTextSaid : Prop := fnExactSegmentTextRow.holds Try.pinned (OpenSpec.ofChange fnExactSegmentTextSpec)

/-- ITS FALSE NEIGHBOUR: 'it returns false'. Refute it at one input. -/
def fnExactSegmentTextWrong : ChangeSpec := { name := "fnExactSegmentText", fn := fun _ => fun
  | [d1, d2, d3] => { results := [.lit (.bool false)], args := [d1, d2, d3] }
  | _ => none }
def FnExactSegmentTextWrongFalsely : Prop := fnExactSegmentTextRow.holds Try.pinned (OpenSpec.ofChange fnExactSegmentTextWrong)

/-- 'laws.FnExactReadSegment': WHATEVER THE INPUT: true; the input reads as it did. -/
def fnExactReadSegmentSpec : ChangeSpec := { name := "fnExactReadSegment", fn := fun _ => fun
  | [d1, d2, d3] => { results := [.lit (.bool true)], args := [d1, d2, d3] }
  | _ => none }
def fnExactReadSegmentRow : OpenClaim := { program := "ytlfbcfhekfmkfaa", sum := "ac6a2b8caef44876e598499270797844ee2c1ab62a0b4c8b6a4e7fc465c77ade", func := "loop.example/g00504/laws.FnExactReadSegment", spec := "fnExactReadSegment", apart := false }
def FnExactReadSegmentSaid : Prop := fnExactReadSegmentRow.holds Try.pinned (OpenSpec.ofChange fnExactReadSegmentSpec)

/-- ITS FALSE NEIGHBOUR: 'it returns false'. Refute it at one input. -/
def fnExactReadSegmentWrong : ChangeSpec := { name := "fnExactReadSegment", fn := fun _ => fun
  | [d1, d2, d3] => { results := [.lit (.bool false)], args := [d1, d2, d3] }
  | _ => none }
def FnExactReadSegmentWrongFalsely : Prop := fnExactReadSegmentRow.holds Try.pinned (OpenSpec.ofChange fnExactReadSegmentWrong)

/-- 'laws.FnExactSegmentLen': WHATEVER THE INPUT: true; the input reads as it did. -/
def fnExactSegmentLenSpec : ChangeSpec := { name := "fnExactSegmentLen", fn := fun _ => fun
  | [d] => { results := [.lit (.bool true)], args := [d] }
  | _ => none }
def fnExactSegmentLenRow : OpenClaim := { program := "ytlfbcfhekfmkfaa", sum := "ac6a2b8caef44876e598499270797844ee2c1ab62a0b4c8b6a4e7fc465c77ade", func := "loop.example/g00504/laws.FnExactSegmentLen", spec := "fnExactSegmentLen", apart := false }
def FnExactSegmentLenSaid : Prop := fnExactSegmentLenRow.holds Try.pinned (OpenSpec.ofChange fnExactSegmentLenSpec)

/-- ITS FALSE NEIGHBOUR: 'it returns false'. Refute it at one input. -/
def fnExactSegmentLenWrong : ChangeSpec := { name := "fnExactSegmentLen", fn := fun _ => fun
  | [d] => { results := [.lit (.bool false)], args := [d] }
  | _ => none }
def FnExactSegmentLenWrongFalsely : Prop := fnExactSegmentLenRow.holds Try.pinned (OpenSpec.ofChange fnExactSegmentLenWrong)

/-- 'laws.FnExactHas': WHATEVER THE INPUT: true; the input reads as it did. -/
def fnExactHasSpec : ChangeSpec := { name := "fnExactHas", fn := fun _ => fun
  | [d1, d2] => { results := [.lit (.bool true)], args := [d1, d2] }
  | _ => none }
def fnExactHasRow : OpenClaim := { program := "ytlfbcfhekfmkfaa", sum := "ac6a2b8caef44876e598499270797844ee2c1ab62a0b4c8b6a4e7fc465c77ade", func := "loop.example/g00504/laws.FnExactHas", spec := "fnExactHas", apart := false }
def FnExactHasSaid : Prop := fnExactHasRow.holds Try.pinned (OpenSpec.ofChange fnExactHasSpec)

/-- ITS FALSE NEIGHBOUR: 'it returns false'. Refute it at one input. -/
def fnExactHasWrong : ChangeSpec := { name := "fnExactHas", fn := fun _ => fun
  | [d1, d2] => { results := [.lit (.bool false)], args := [d1, d2] }
  | _ => none }
def FnExactHasWrongFalsely : Prop := fnExactHasRow.holds Try.pinned (OpenSpec.ofChange fnExactHasWrong)

/- THE SECOND FORM. 'bulk': how many values and letters a reading holds, each counted each time it is reached (what is shared counts as often as it is met; a slice's spare places count too). A statement '..UptoSaid' is the law's where the arguments, and the package variables that the reading takes, are together of bulk at most 1048576: NARROWER than '..Said'. Prove '..Said' where nothing that the law and all that it calls make is longer than what came in: it says more and counts as full. Else prove '..UptoSaid'. A law counts once. -/
mutual
def uptoBulk {H : Type} : DataW H → Nat
  | .lit (.string bytes) => bytes.length + 1
  | .lit _ => 1
  | .nil => 1
  | .ptr d => uptoBulk d + 1
  | .slice elems spare => uptoBulkAll elems + uptoBulkAll spare + 1
  | .agg parts => uptoBulkAll parts + 1
  | .iface _ d => uptoBulk d + 1
  | .map entries => uptoBulkEntries entries + 1
  | .held _ => 1
def uptoBulkAll {H : Type} : List (DataW H) → Nat
  | [] => 0
  | d :: r => uptoBulk d + uptoBulkAll r
def uptoBulkEntries {H : Type} : List (Lit × DataW H) → Nat
  | [] => 0
  | x :: r => uptoBulkEntry x + uptoBulkEntries r
def uptoBulkEntry {H : Type} : Lit × DataW H → Nat
  | (.string bytes, d) => bytes.length + uptoBulk d + 1
  | (_, d) => uptoBulk d + 1
 end
def uptoSmall : (H : Type) → List (DataW H) → Bool := fun _ ds => decide (uptoBulkAll ds ≤ 1048576)
def OpenSpec.upto (s : _root_.Go.ChangeSpec) : _root_.Go.OpenSpec := { _root_.Go.OpenSpec.ofChange s with cond := some uptoSmall }

/-- 'laws.FnSegment', WHERE WHAT IT READS IS OF BULK AT MOST 1048576: true; the input reads as it did. -/
def fnSegmentUptoRow : OpenClaim := { program := "ytlfbcfhekfmkfaa", sum := "ac6a2b8caef44876e598499270797844ee2c1ab62a0b4c8b6a4e7fc465c77ade", func := "loop.example/g00504/laws.FnSegment", spec := "fnSegment", apart := false, narrowed := true }
def FnSegmentUptoSaid : Prop := fnSegmentUptoRow.holds Try.pinned (OpenSpec.upto fnSegmentSpec)

/-- 'laws.FnSegmentRead', WHERE WHAT IT READS IS OF BULK AT MOST 1048576: true; the input reads as it did. -/
def fnSegmentReadUptoRow : OpenClaim := { program := "ytlfbcfhekfmkfaa", sum := "ac6a2b8caef44876e598499270797844ee2c1ab62a0b4c8b6a4e7fc465c77ade", func := "loop.example/g00504/laws.FnSegmentRead", spec := "fnSegmentRead", apart := false, narrowed := true }
def FnSegmentReadUptoSaid : Prop := fnSegmentReadUptoRow.holds Try.pinned (OpenSpec.upto fnSegmentReadSpec)

/-- 'laws.FnExactSegmentOk', WHERE WHAT IT READS IS OF BULK AT MOST 1048576: true; the input reads as it did. -/
def fnExactSegmentOkUptoRow : OpenClaim := { program := "ytlfbcfhekfmkfaa", sum := "ac6a2b8caef44876e598499270797844ee2c1ab62a0b4c8b6a4e7fc465c77ade", func := "loop.example/g00504/laws.FnExactSegmentOk", spec := "fnExactSegmentOk", apart := false, narrowed := true }
def FnExactSegmentOkUptoSaid : Prop := fnExactSegmentOkUptoRow.holds Try.pinned (OpenSpec.upto fnExactSegmentOkSpec)

/-- 'laws.FnExactSegmentText', WHERE WHAT IT READS IS OF BULK AT MOST 1048576: true; the input reads as it did. -/
def fnExactSegmentTextUptoRow : OpenClaim := { program := "ytlfbcfhekfmkfaa", sum := "ac6a2b8caef44876e598499270797844ee2c1ab62a0b4c8b6a4e7fc465c77ade", func := "loop.example/g00504/laws.FnExactSegmentText", spec := "fnExactSegmentText", apart := false, narrowed := true }
def FnExactSegmentTextUptoSaid : Prop := fnExactSegmentTextUptoRow.holds Try.pinned (OpenSpec.upto fnExactSegmentTextSpec)

/-- 'laws.FnExactReadSegment', WHERE WHAT IT READS IS OF BULK AT MOST 1048576: true; the input reads as it did. -/
def fnExactReadSegmentUptoRow : OpenClaim := { program := "ytlfbcfhekfmkfaa", sum := "ac6a2b8caef44876e598499270797844ee2c1ab62a0b4c8b6a4e7fc465c77ade", func := "loop.example/g00504/laws.FnExactReadSegment", spec := "fnExactReadSegment", apart := false, narrowed := true }
def FnExactReadSegmentUptoSaid : Prop := fnExactReadSegmentUptoRow.holds Try.pinned (OpenSpec.upto fnExactReadSegmentSpec)

/-- 'laws.FnExactSegmentLen', WHERE WHAT IT READS IS OF BULK AT MOST 1048576: true; the input reads as it did. -/
def fnExactSegmentLenUptoRow : OpenClaim := { program := "ytlfbcfhekfmkfaa", sum := "ac6a2b8caef44876e598499270797844ee2c1ab62a0b4c8b6a4e7fc465c77ade", func := "loop.example/g00504/laws.FnExactSegmentLen", spec := "fnExactSegmentLen", apart := false, narrowed := true }
def FnExactSegmentLenUptoSaid : Prop := fnExactSegmentLenUptoRow.holds Try.pinned (OpenSpec.upto fnExactSegmentLenSpec)

/-- 'laws.FnExactHas', WHERE WHAT IT READS IS OF BULK AT MOST 1048576: true; the input reads as it did. -/
def fnExactHasUptoRow : OpenClaim := { program := "ytlfbcfhekfmkfaa", sum := "ac6a2b8caef44876e598499270797844ee2c1ab62a0b4c8b6a4e7fc465c77ade", func := "loop.example/g00504/laws.FnExactHas", spec := "fnExactHas", apart := false, narrowed := true }
def FnExactHasUptoSaid : Prop := fnExactHasUptoRow.holds Try.pinned (OpenSpec.upto fnExactHasSpec)

end Rows
end Go.Proofs.Ytlfbcfhekfmkfaa
