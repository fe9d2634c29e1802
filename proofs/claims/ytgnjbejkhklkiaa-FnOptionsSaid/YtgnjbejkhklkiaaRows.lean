/-
  No cell of these rows narrows 'for every input' (looked for: loops, veiled, ifaces, maps, wideKeys, modest, calm, conditions, laid).
  DERIVED. THE GIVEN ROWS OF THIS SEAT. 5 by the template 'for every input the law returns true; each argument reads behind the call as it read before'; 0 by the template 'total and deterministic' (their statements: YtgnjbejkhklkiaaTotals.lean).
  GIVEN WITH THE SEED: the statements are not yours to turn. If you find one false, say at which input.
  Laid BY PROGRAM, IN A SANDBOX (cutbox-rows.mjs): the forced cells as the released guide's own fill.sh prints them over the translation e64ec3e9ddf80b41… (all of the seat's roots in one cut). By AI agents, Wed Nov 11 2026. No macro, syntax, notation, axiom, sorry.
-/
import Derived.Test.YtgnjbejkhklkiaaChecked
import GoSem.Claim
import GoSem.ClaimJoined
import GoSem.ClaimMapViews
import Derived.JoinedTies
import Derived.KernelRfl
namespace Go.Proofs.Ytgnjbejkhklkiaa
/- THE CELL 'sum', in the pinned program and in every row, IS THE sha256 OF THE DUMP (.gsa) THAT YtgnjbejkhklkiaaProg.lean LOADS. Nothing in Lean hashes anything: it is a label: what it is worth is what the hold of that sum in a sandbox is worth. -/
noncomputable def Try.pinned : Pinned := { name := "ytgnjbejkhklkiaa", sum := "e64ec3e9ddf80b4164c220fd592135b74985b0b0ed04d4577303101ad6b9381b", checked := Try.checked }
namespace Rows
def none {H : Type} : Left H := { results := [], args := [] }

/-- 'laws.FnOptions': WHATEVER THE INPUT: true; the input reads as it did. -/
def fnOptionsSpec : ChangeSpec := { name := "fnOptions", fn := fun _ => fun
  | [d] => { results := [.lit (.bool true)], args := [d] }
  | _ => none }
def fnOptionsRow : OpenClaim := { program := "ytgnjbejkhklkiaa", sum := "e64ec3e9ddf80b4164c220fd592135b74985b0b0ed04d4577303101ad6b9381b", func := "loop.example/g00504/laws.FnOptions", spec := "fnOptions", apart := false }
def FnOptionsSaid : Prop := fnOptionsRow.holds Try.pinned (OpenSpec.ofChange fnOptionsSpec)

/-- ITS FALSE NEIGHBOUR: 'it returns false'. Refute it at one input. -/
def fnOptionsWrong : ChangeSpec := { name := "fnOptions", fn := fun _ => fun
  | [d] => { results := [.lit (.bool false)], args := [d] }
  | _ => none }
def FnOptionsWrongFalsely : Prop := fnOptionsRow.holds Try.pinned (OpenSpec.ofChange fnOptionsWrong)

/-- 'laws.FnExactOptionsOk': WHATEVER THE INPUT: true; the input reads as it did. -/
def fnExactOptionsOkSpec : ChangeSpec := { name := "fnExactOptionsOk", fn := fun _ => fun
  | [d] => { results := [.lit (.bool true)], args := [d] }
  | _ => none }
def fnExactOptionsOkRow : OpenClaim := { program := "ytgnjbejkhklkiaa", sum := "e64ec3e9ddf80b4164c220fd592135b74985b0b0ed04d4577303101ad6b9381b", func := "loop.example/g00504/laws.FnExactOptionsOk", spec := "fnExactOptionsOk", apart := false }
def FnExactOptionsOkSaid : Prop := fnExactOptionsOkRow.holds Try.pinned (OpenSpec.ofChange fnExactOptionsOkSpec)

/-- ITS FALSE NEIGHBOUR: 'it returns false'. Refute it at one input. -/
def fnExactOptionsOkWrong : ChangeSpec := { name := "fnExactOptionsOk", fn := fun _ => fun
  | [d] => { results := [.lit (.bool false)], args := [d] }
  | _ => none }
def FnExactOptionsOkWrongFalsely : Prop := fnExactOptionsOkRow.holds Try.pinned (OpenSpec.ofChange fnExactOptionsOkWrong)

/-- 'laws.FnExactOptionsText': WHATEVER THE INPUT: true; the input reads as it did. -/
def fnExactOptionsTextSpec : ChangeSpec := { name := "fnExactOptionsText", fn := fun _ => fun
  | [d] => { results := [.lit (.bool true)], args := [d] }
  | _ => none }
def fnExactOptionsTextRow : OpenClaim := { program := "ytgnjbejkhklkiaa", sum := "e64ec3e9ddf80b4164c220fd592135b74985b0b0ed04d4577303101ad6b9381b", func := "loop.example/g00504/laws.FnExactOptionsText", spec := "fnExactOptionsText", apart := false }
def FnExactOptionsTextSaid : Prop := fnExactOptionsTextRow.holds Try.pinned (OpenSpec.ofChange fnExactOptionsTextSpec)

/-- ITS FALSE NEIGHBOUR: 'it returns false'. Refute it at one input. -/
def fnExactOptionsTextWrong : ChangeSpec := { name := "fnExactOptionsText", fn := fun _ => fun
  | [d] => { results := [.lit (.bool false)], args := [d] }
  | _ => none }
def FnExactOptionsTextWrongFalsely : Prop := fnExactOptionsTextRow.holds Try.pinned (OpenSpec.ofChange fnExactOptionsTextWrong)

/-- 'laws.FnExactReadOptions': WHATEVER THE INPUT: true; the input reads as it did. -/
def fnExactReadOptionsSpec : ChangeSpec := { name := "fnExactReadOptions", fn := fun _ => fun
  | [d] => { results := [.lit (.bool true)], args := [d] }
  | _ => none }
def fnExactReadOptionsRow : OpenClaim := { program := "ytgnjbejkhklkiaa", sum := "e64ec3e9ddf80b4164c220fd592135b74985b0b0ed04d4577303101ad6b9381b", func := "loop.example/g00504/laws.FnExactReadOptions", spec := "fnExactReadOptions", apart := false }
def FnExactReadOptionsSaid : Prop := fnExactReadOptionsRow.holds Try.pinned (OpenSpec.ofChange fnExactReadOptionsSpec)

/-- ITS FALSE NEIGHBOUR: 'it returns false'. Refute it at one input. -/
def fnExactReadOptionsWrong : ChangeSpec := { name := "fnExactReadOptions", fn := fun _ => fun
  | [d] => { results := [.lit (.bool false)], args := [d] }
  | _ => none }
def FnExactReadOptionsWrongFalsely : Prop := fnExactReadOptionsRow.holds Try.pinned (OpenSpec.ofChange fnExactReadOptionsWrong)

/-- 'laws.FnExactNoOptions': WHATEVER THE INPUT: true; the input reads as it did. -/
def fnExactNoOptionsSpec : ChangeSpec := { name := "fnExactNoOptions", fn := fun _ => fun
  | [] => { results := [.lit (.bool true)], args := [] }
  | _ => none }
def fnExactNoOptionsRow : OpenClaim := { program := "ytgnjbejkhklkiaa", sum := "e64ec3e9ddf80b4164c220fd592135b74985b0b0ed04d4577303101ad6b9381b", func := "loop.example/g00504/laws.FnExactNoOptions", spec := "fnExactNoOptions", apart := false }
def FnExactNoOptionsSaid : Prop := fnExactNoOptionsRow.holds Try.pinned (OpenSpec.ofChange fnExactNoOptionsSpec)

/-- ITS FALSE NEIGHBOUR: 'it returns false'. Refute it at one input. -/
def fnExactNoOptionsWrong : ChangeSpec := { name := "fnExactNoOptions", fn := fun _ => fun
  | [] => { results := [.lit (.bool false)], args := [] }
  | _ => none }
def FnExactNoOptionsWrongFalsely : Prop := fnExactNoOptionsRow.holds Try.pinned (OpenSpec.ofChange fnExactNoOptionsWrong)

/- THE SECOND FORM. 'bulk': how many values and letters a reading holds, each counted each time it is reached (what is shared counts as often as it is met; a slice's spare places count too). A statement '..UptoSaid' is the law's where the arguments, and the package variables that the reading takes, are together of bulk at most 1048576: NARROWER than '..Said'. Prove '..Said' where nothing that the law and all that it calls make is longer than what came in: it says more and counts as full. Else prove '..UptoSaid'. A law counts once. -/
mutual
def uptoBulk {H : Type} : DataW H → Nat
  | .lit (.string bytes) => bytes.length + 1
  | .lit _ => 1
  | .nil => 1
  | .ptr d => uptoBulk d + 1
  | .slice elems spare => uptoBulkAll elems + uptoBulkAll spare + 1
  | .agg parts => uptoBulkAll parts + 1
  | .iface _ d => uptoBulk d + 1
  | .map entries => uptoBulkEntries entries + 1
  | .held _ => 1
def uptoBulkAll {H : Type} : List (DataW H) → Nat
  | [] => 0
  | d :: r => uptoBulk d + uptoBulkAll r
def uptoBulkEntries {H : Type} : List (Lit × DataW H) → Nat
  | [] => 0
  | x :: r => uptoBulkEntry x + uptoBulkEntries r
def uptoBulkEntry {H : Type} : Lit × DataW H → Nat
  | (.string bytes, d) => bytes.length + uptoBulk d + 1
  | (_, d) => uptoBulk d + 1
 end
def uptoSmall : (H : Type) → List (DataW H) → Bool := fun _ ds => decide (uptoBulkAll ds ≤ 1048576)
def OpenSpec.upto (s : _root_.Go.ChangeSpec) : _root_.Go.OpenSpec := { _root_.Go.OpenSpec.ofChange s with cond := some uptoSmall }

/-- 'laws.FnOptions', WHERE WHAT IT READS IS OF BULK AT MOST 1048576: true; the input reads as it did. -/
def fnOptionsUptoRow : OpenClaim := { program := "ytgnjbejkhklkiaa", sum := "e64ec3e9ddf80b4164c220fd592135b74985b0b0ed04d4577303101ad6b9381b", func := "loop.example/g00504/laws.FnOptions", spec := "fnOptions", apart := false, narrowed := true }
def FnOptionsUptoSaid : Prop := fnOptionsUptoRow.holds Try.pinned (OpenSpec.upto fnOptionsSpec)

/-- 'laws.FnExactOptionsOk', WHERE WHAT IT READS IS OF BULK AT MOST 1048576: true; the input reads as it did. -/
def fnExactOptionsOkUptoRow : OpenClaim := { program := "ytgnjbejkhklkiaa", sum := "e64ec3e9ddf80b4164c220fd592135b74985b0b0ed04d4577303101ad6b9381b", func := "loop.example/g00504/laws.FnExactOptionsOk", spec := "fnExactOptionsOk", apart := false, narrowed := true }
def FnExactOptionsOkUptoSaid : Prop := fnExactOptionsOkUptoRow.holds Try.pinned (OpenSpec.upto fnExactOptionsOkSpec)

/-- 'laws.FnExactOptionsText', WHERE WHAT IT READS IS OF BULK AT MOST 1048576: true; the input reads as it did. -/
def fnExactOptionsTextUptoRow : OpenClaim := { program := "ytgnjbejkhklkiaa", sum := "e64ec3e9ddf80b4164c220fd592135b74985b0b0ed04d4577303101ad6b9381b", func := "loop.example/g00504/laws.FnExactOptionsText", spec := "fnExactOptionsText", apart := false, narrowed := true }
def FnExactOptionsTextUptoSaid : Prop := fnExactOptionsTextUptoRow.holds Try.pinned (OpenSpec.upto fnExactOptionsTextSpec)

/-- 'laws.FnExactReadOptions', WHERE WHAT IT READS IS OF BULK AT MOST 1048576: true; the input reads as it did. -/
def fnExactReadOptionsUptoRow : OpenClaim := { program := "ytgnjbejkhklkiaa", sum := "e64ec3e9ddf80b4164c220fd592135b74985b0b0ed04d4577303101ad6b9381b", func := "loop.example/g00504/laws.FnExactReadOptions", spec := "fnExactReadOptions", apart := false, narrowed := true }
def FnExactReadOptionsUptoSaid : Prop := fnExactReadOptionsUptoRow.holds Try.pinned (OpenSpec.upto fnExactReadOptionsSpec)

/-- 'laws.FnExactNoOptions', WHERE WHAT IT READS IS OF BULK AT MOST 1048576: true; the input reads as it did. -/
def fnExactNoOptionsUptoRow : OpenClaim := { program := "ytgnjbejkhklkiaa", sum := "e64ec3e9ddf80b4164c220fd592135b74985b0b0ed04d4577303101ad6b9381b", func := "loop.example/g00504/laws.FnExactNoOptions", spec := "fnExactNoOptions", apart := false, narrowed := true }
def FnExactNoOptionsUptoSaid : Prop := fnExactNoOptionsUptoRow.holds Try.pinned (OpenSpec.upto fnExactNoOptionsSpec)

end Rows
end Go.Proofs.Ytgnjbejkhklkiaa
