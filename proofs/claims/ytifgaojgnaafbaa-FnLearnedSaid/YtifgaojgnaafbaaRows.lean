/-
  No cell of these rows narrows 'for every input' (looked for: loops, veiled, ifaces, maps, wideKeys, modest, calm, conditions, laid).
  DERIVED. THE GIVEN ROWS OF THIS SEAT. 6 by the template 'for every input the law returns true; each argument reads behind the call as it read before'; 0 by the template 'total and deterministic' (their statements: YtifgaojgnaafbaaTotals.lean).
  GIVEN WITH THE SEED: the statements are not yours to turn. If you find one false, say at which input.
  Laid BY PROGRAM, IN A SANDBOX (cutbox-rows.mjs): the forced cells as the released guide's own fill.sh prints them over the translation 133180930b0c2d3d… (all of the seat's roots in one cut). By AI agents, Wed Nov 11 2026. No macro, syntax, notation, axiom, sorry.
-/
import Derived.Test.YtifgaojgnaafbaaChecked
import GoSem.Claim
import GoSem.ClaimJoined
import GoSem.ClaimMapViews
import Derived.JoinedTies
import Derived.KernelRfl
namespace Go.Proofs.Ytifgaojgnaafbaa
/- THE CELL 'sum', in the pinned program and in every row, IS THE sha256 OF THE DUMP (.gsa) THAT YtifgaojgnaafbaaProg.lean LOADS. Nothing in Lean hashes anything: it is a label: what it is worth is what the hold of that sum in a sandbox is worth. -/
noncomputable def Try.pinned : Pinned := { name := "ytifgaojgnaafbaa", sum := "133180930b0c2d3dd9a8c3b16d6317325979048782694c561a035a671c820d6c", checked := Try.checked }
namespace Rows
def none {H : Type} : Left H := { results := [], args := [] }

/-- 'laws.FnStamp': WHATEVER THE INPUT: true; the input reads as it did. -/
def fnStampSpec : ChangeSpec := { name := "fnStamp", fn := fun _ => fun
  | [d] => { results := [.lit (.bool true)], args := [d] }
  | _ => none }
def fnStampRow : OpenClaim := { program := "ytifgaojgnaafbaa", sum := "133180930b0c2d3dd9a8c3b16d6317325979048782694c561a035a671c820d6c", func := "loop.example/g00504/laws.FnStamp", spec := "fnStamp", unfollowed := true, recurses := true, apart := false }
def FnStampSaid : Prop := fnStampRow.holds Try.pinned (OpenSpec.ofChange fnStampSpec)

/-- ITS FALSE NEIGHBOUR: 'it returns false'. Refute it at one input. -/
def fnStampWrong : ChangeSpec := { name := "fnStamp", fn := fun _ => fun
  | [d] => { results := [.lit (.bool false)], args := [d] }
  | _ => none }
def FnStampWrongFalsely : Prop := fnStampRow.holds Try.pinned (OpenSpec.ofChange fnStampWrong)

/-- 'laws.FnLearned': WHATEVER THE INPUT: true; the input reads as it did. -/
def fnLearnedSpec : ChangeSpec := { name := "fnLearned", fn := fun _ => fun
  | [d] => { results := [.lit (.bool true)], args := [d] }
  | _ => none }
def fnLearnedRow : OpenClaim := { program := "ytifgaojgnaafbaa", sum := "133180930b0c2d3dd9a8c3b16d6317325979048782694c561a035a671c820d6c", func := "loop.example/g00504/laws.FnLearned", spec := "fnLearned", unfollowed := true, recurses := true, apart := false }
def FnLearnedSaid : Prop := fnLearnedRow.holds Try.pinned (OpenSpec.ofChange fnLearnedSpec)

/-- ITS FALSE NEIGHBOUR: 'it returns false'. Refute it at one input. -/
def fnLearnedWrong : ChangeSpec := { name := "fnLearned", fn := fun _ => fun
  | [d] => { results := [.lit (.bool false)], args := [d] }
  | _ => none }
def FnLearnedWrongFalsely : Prop := fnLearnedRow.holds Try.pinned (OpenSpec.ofChange fnLearnedWrong)

/-- 'laws.FnExactStampOf': WHATEVER THE INPUT: true; the input reads as it did. -/
def fnExactStampOfSpec : ChangeSpec := { name := "fnExactStampOf", fn := fun _ => fun
  | [d1, d2, d3] => { results := [.lit (.bool true)], args := [d1, d2, d3] }
  | _ => none }
def fnExactStampOfRow : OpenClaim := { program := "ytifgaojgnaafbaa", sum := "133180930b0c2d3dd9a8c3b16d6317325979048782694c561a035a671c820d6c", func := "loop.example/g00504/laws.FnExactStampOf", spec := "fnExactStampOf", unfollowed := true, recurses := true, apart := false }
def FnExactStampOfSaid : Prop := fnExactStampOfRow.holds Try.pinned (OpenSpec.ofChange fnExactStampOfSpec)

/-- ITS FALSE NEIGHBOUR: 'it returns false'. Refute it at one input. -/
def fnExactStampOfWrong : ChangeSpec := { name := "fnExactStampOf", fn := fun _ => fun
  | [d1, d2, d3] => { results := [.lit (.bool false)], args := [d1, d2, d3] }
  | _ => none }
def FnExactStampOfWrongFalsely : Prop := fnExactStampOfRow.holds Try.pinned (OpenSpec.ofChange fnExactStampOfWrong)

/-- 'laws.FnExactStampIn': WHATEVER THE INPUT: true; the input reads as it did. -/
def fnExactStampInSpec : ChangeSpec := { name := "fnExactStampIn", fn := fun _ => fun
  | [d] => { results := [.lit (.bool true)], args := [d] }
  | _ => none }
def fnExactStampInRow : OpenClaim := { program := "ytifgaojgnaafbaa", sum := "133180930b0c2d3dd9a8c3b16d6317325979048782694c561a035a671c820d6c", func := "loop.example/g00504/laws.FnExactStampIn", spec := "fnExactStampIn", unfollowed := true, recurses := true, apart := false }
def FnExactStampInSaid : Prop := fnExactStampInRow.holds Try.pinned (OpenSpec.ofChange fnExactStampInSpec)

/-- ITS FALSE NEIGHBOUR: 'it returns false'. Refute it at one input. -/
def fnExactStampInWrong : ChangeSpec := { name := "fnExactStampIn", fn := fun _ => fun
  | [d] => { results := [.lit (.bool false)], args := [d] }
  | _ => none }
def FnExactStampInWrongFalsely : Prop := fnExactStampInRow.holds Try.pinned (OpenSpec.ofChange fnExactStampInWrong)

/-- 'laws.FnExactAnswerOptions': WHATEVER THE INPUT: true; the input reads as it did. -/
def fnExactAnswerOptionsSpec : ChangeSpec := { name := "fnExactAnswerOptions", fn := fun _ => fun
  | [d1, d2] => { results := [.lit (.bool true)], args := [d1, d2] }
  | _ => none }
def fnExactAnswerOptionsRow : OpenClaim := { program := "ytifgaojgnaafbaa", sum := "133180930b0c2d3dd9a8c3b16d6317325979048782694c561a035a671c820d6c", func := "loop.example/g00504/laws.FnExactAnswerOptions", spec := "fnExactAnswerOptions", unfollowed := true, recurses := true, apart := false }
def FnExactAnswerOptionsSaid : Prop := fnExactAnswerOptionsRow.holds Try.pinned (OpenSpec.ofChange fnExactAnswerOptionsSpec)

/-- ITS FALSE NEIGHBOUR: 'it returns false'. Refute it at one input. -/
def fnExactAnswerOptionsWrong : ChangeSpec := { name := "fnExactAnswerOptions", fn := fun _ => fun
  | [d1, d2] => { results := [.lit (.bool false)], args := [d1, d2] }
  | _ => none }
def FnExactAnswerOptionsWrongFalsely : Prop := fnExactAnswerOptionsRow.holds Try.pinned (OpenSpec.ofChange fnExactAnswerOptionsWrong)

/-- 'laws.FnExactLearnedOptions': WHATEVER THE INPUT: true; the input reads as it did. -/
def fnExactLearnedOptionsSpec : ChangeSpec := { name := "fnExactLearnedOptions", fn := fun _ => fun
  | [d1, d2] => { results := [.lit (.bool true)], args := [d1, d2] }
  | _ => none }
def fnExactLearnedOptionsRow : OpenClaim := { program := "ytifgaojgnaafbaa", sum := "133180930b0c2d3dd9a8c3b16d6317325979048782694c561a035a671c820d6c", func := "loop.example/g00504/laws.FnExactLearnedOptions", spec := "fnExactLearnedOptions", unfollowed := true, recurses := true, apart := false }
def FnExactLearnedOptionsSaid : Prop := fnExactLearnedOptionsRow.holds Try.pinned (OpenSpec.ofChange fnExactLearnedOptionsSpec)

/-- ITS FALSE NEIGHBOUR: 'it returns false'. Refute it at one input. -/
def fnExactLearnedOptionsWrong : ChangeSpec := { name := "fnExactLearnedOptions", fn := fun _ => fun
  | [d1, d2] => { results := [.lit (.bool false)], args := [d1, d2] }
  | _ => none }
def FnExactLearnedOptionsWrongFalsely : Prop := fnExactLearnedOptionsRow.holds Try.pinned (OpenSpec.ofChange fnExactLearnedOptionsWrong)

/- THE SECOND FORM. 'bulk': how many values and letters a reading holds, each counted each time it is reached (what is shared counts as often as it is met; a slice's spare places count too). A statement '..UptoSaid' is the law's where the arguments, and the package variables that the reading takes, are together of bulk at most 1048576: NARROWER than '..Said'. Prove '..Said' where nothing that the law and all that it calls make is longer than what came in: it says more and counts as full. Else prove '..UptoSaid'. A law counts once. -/
mutual
def uptoBulk {H : Type} : DataW H → Nat
  | .lit (.string bytes) => bytes.length + 1
  | .lit _ => 1
  | .nil => 1
  | .ptr d => uptoBulk d + 1
  | .slice elems spare => uptoBulkAll elems + uptoBulkAll spare + 1
  | .agg parts => uptoBulkAll parts + 1
  | .iface _ d => uptoBulk d + 1
  | .map entries => uptoBulkEntries entries + 1
  | .held _ => 1
def uptoBulkAll {H : Type} : List (DataW H) → Nat
  | [] => 0
  | d :: r => uptoBulk d + uptoBulkAll r
def uptoBulkEntries {H : Type} : List (Lit × DataW H) → Nat
  | [] => 0
  | x :: r => uptoBulkEntry x + uptoBulkEntries r
def uptoBulkEntry {H : Type} : Lit × DataW H → Nat
  | (.string bytes, d) => bytes.length + uptoBulk d + 1
  | (_, d) => uptoBulk d + 1
 end
def uptoSmall : (H : Type) → List (DataW H) → Bool := fun _ ds => decide (uptoBulkAll ds ≤ 1048576)
def OpenSpec.upto (s : _root_.Go.ChangeSpec) : _root_.Go.OpenSpec := { _root_.Go.OpenSpec.ofChange s with cond := some uptoSmall }

/-- 'laws.FnStamp', WHERE WHAT IT READS IS OF BULK AT MOST 1048576: true; the input reads as it did. -/
def fnStampUptoRow : OpenClaim := { program := "ytifgaojgnaafbaa", sum := "133180930b0c2d3dd9a8c3b16d6317325979048782694c561a035a671c820d6c", func := "loop.example/g00504/laws.FnStamp", spec := "fnStamp", unfollowed := true, recurses := true, apart := false, narrowed := true }
def FnStampUptoSaid : Prop := fnStampUptoRow.holds Try.pinned (OpenSpec.upto fnStampSpec)

/-- 'laws.FnLearned', WHERE WHAT IT READS IS OF BULK AT MOST 1048576: true; the input reads as it did. -/
def fnLearnedUptoRow : OpenClaim := { program := "ytifgaojgnaafbaa", sum := "133180930b0c2d3dd9a8c3b16d6317325979048782694c561a035a671c820d6c", func := "loop.example/g00504/laws.FnLearned", spec := "fnLearned", unfollowed := true, recurses := true, apart := false, narrowed := true }
def FnLearnedUptoSaid : Prop := fnLearnedUptoRow.holds Try.pinned (OpenSpec.upto fnLearnedSpec)

/-- 'laws.FnExactStampOf', WHERE WHAT IT READS IS OF BULK AT MOST 1048576: true; the input reads as it did. -/
def fnExactStampOfUptoRow : OpenClaim := { program := "ytifgaojgnaafbaa", sum := "133180930b0c2d3dd9a8c3b16d6317325979048782694c561a035a671c820d6c", func := "loop.example/g00504/laws.FnExactStampOf", spec := "fnExactStampOf", unfollowed := true, recurses := true, apart := false, narrowed := true }
def FnExactStampOfUptoSaid : Prop := fnExactStampOfUptoRow.holds Try.pinned (OpenSpec.upto fnExactStampOfSpec)

/-- 'laws.FnExactStampIn', WHERE WHAT IT READS IS OF BULK AT MOST 1048576: true; the input reads as it did. -/
def fnExactStampInUptoRow : OpenClaim := { program := "ytifgaojgnaafbaa", sum := "133180930b0c2d3dd9a8c3b16d6317325979048782694c561a035a671c820d6c", func := "loop.example/g00504/laws.FnExactStampIn", spec := "fnExactStampIn", unfollowed := true, recurses := true, apart := false, narrowed := true }
def FnExactStampInUptoSaid : Prop := fnExactStampInUptoRow.holds Try.pinned (OpenSpec.upto fnExactStampInSpec)

/-- 'laws.FnExactAnswerOptions', WHERE WHAT IT READS IS OF BULK AT MOST 1048576: true; the input reads as it did. -/
def fnExactAnswerOptionsUptoRow : OpenClaim := { program := "ytifgaojgnaafbaa", sum := "133180930b0c2d3dd9a8c3b16d6317325979048782694c561a035a671c820d6c", func := "loop.example/g00504/laws.FnExactAnswerOptions", spec := "fnExactAnswerOptions", unfollowed := true, recurses := true, apart := false, narrowed := true }
def FnExactAnswerOptionsUptoSaid : Prop := fnExactAnswerOptionsUptoRow.holds Try.pinned (OpenSpec.upto fnExactAnswerOptionsSpec)

/-- 'laws.FnExactLearnedOptions', WHERE WHAT IT READS IS OF BULK AT MOST 1048576: true; the input reads as it did. -/
def fnExactLearnedOptionsUptoRow : OpenClaim := { program := "ytifgaojgnaafbaa", sum := "133180930b0c2d3dd9a8c3b16d6317325979048782694c561a035a671c820d6c", func := "loop.example/g00504/laws.FnExactLearnedOptions", spec := "fnExactLearnedOptions", unfollowed := true, recurses := true, apart := false, narrowed := true }
def FnExactLearnedOptionsUptoSaid : Prop := fnExactLearnedOptionsUptoRow.holds Try.pinned (OpenSpec.upto fnExactLearnedOptionsSpec)

end Rows
end Go.Proofs.Ytifgaojgnaafbaa
