/-
  No cell of these rows narrows 'for every input' (looked for: loops, veiled, ifaces, maps, wideKeys, modest, calm, conditions, laid).
  DERIVED. THE GIVEN ROWS OF THIS SEAT. 5 by the template 'for every input the law returns true; each argument reads behind the call as it read before'; 0 by the template 'total and deterministic' (their statements: YtpbnkkgfjmkcdaaTotals.lean).
  GIVEN WITH THE SEED: the statements are not yours to turn. If you find one false, say at which input.
  Laid BY PROGRAM, IN A SANDBOX (cutbox-rows.mjs): the forced cells as the released guide's own fill.sh prints them over the translation 58dcef74e3bd0b5a… (all of the seat's roots in one cut). By AI agents, Wed Nov 11 2026. No macro, syntax, notation, axiom, sorry.
-/
import Derived.Test.YtpbnkkgfjmkcdaaChecked
import GoSem.Claim
import GoSem.ClaimJoined
import GoSem.ClaimMapViews
import Derived.JoinedTies
import Derived.KernelRfl
namespace Go.Proofs.Ytpbnkkgfjmkcdaa
/- THE CELL 'sum', in the pinned program and in every row, IS THE sha256 OF THE DUMP (.gsa) THAT YtpbnkkgfjmkcdaaProg.lean LOADS. Nothing in Lean hashes anything: it is a label: what it is worth is what the hold of that sum in a sandbox is worth. -/
noncomputable def Try.pinned : Pinned := { name := "ytpbnkkgfjmkcdaa", sum := "58dcef74e3bd0b5a36973b861c3e02d178b5428c27519426add3c4de871bdaec", checked := Try.checked }
namespace Rows
def none {H : Type} : Left H := { results := [], args := [] }

/-- 'laws.FnReceiver': WHATEVER THE INPUT: true; the input reads as it did. -/
def fnReceiverSpec : ChangeSpec := { name := "fnReceiver", fn := fun _ => fun
  | [d] => { results := [.lit (.bool true)], args := [d] }
  | _ => none }
def fnReceiverRow : OpenClaim := { program := "ytpbnkkgfjmkcdaa", sum := "58dcef74e3bd0b5a36973b861c3e02d178b5428c27519426add3c4de871bdaec", func := "loop.example/g00504/laws.FnReceiver", spec := "fnReceiver", unfollowed := true, recurses := true, apart := false }
def FnReceiverSaid : Prop := fnReceiverRow.holds Try.pinned (OpenSpec.ofChange fnReceiverSpec)

/-- ITS FALSE NEIGHBOUR: 'it returns false'. Refute it at one input. -/
def fnReceiverWrong : ChangeSpec := { name := "fnReceiver", fn := fun _ => fun
  | [d] => { results := [.lit (.bool false)], args := [d] }
  | _ => none }
def FnReceiverWrongFalsely : Prop := fnReceiverRow.holds Try.pinned (OpenSpec.ofChange fnReceiverWrong)

/-- 'laws.FnAssembly': WHATEVER THE INPUT: true; the input reads as it did. -/
def fnAssemblySpec : ChangeSpec := { name := "fnAssembly", fn := fun _ => fun
  | [d] => { results := [.lit (.bool true)], args := [d] }
  | _ => none }
def fnAssemblyRow : OpenClaim := { program := "ytpbnkkgfjmkcdaa", sum := "58dcef74e3bd0b5a36973b861c3e02d178b5428c27519426add3c4de871bdaec", func := "loop.example/g00504/laws.FnAssembly", spec := "fnAssembly", unfollowed := true, recurses := true, apart := false }
def FnAssemblySaid : Prop := fnAssemblyRow.holds Try.pinned (OpenSpec.ofChange fnAssemblySpec)

/-- ITS FALSE NEIGHBOUR: 'it returns false'. Refute it at one input. -/
def fnAssemblyWrong : ChangeSpec := { name := "fnAssembly", fn := fun _ => fun
  | [d] => { results := [.lit (.bool false)], args := [d] }
  | _ => none }
def FnAssemblyWrongFalsely : Prop := fnAssemblyRow.holds Try.pinned (OpenSpec.ofChange fnAssemblyWrong)

/-- 'laws.FnFirstWins': WHATEVER THE INPUT: true; the input reads as it did. -/
def fnFirstWinsSpec : ChangeSpec := { name := "fnFirstWins", fn := fun _ => fun
  | [d] => { results := [.lit (.bool true)], args := [d] }
  | _ => none }
def fnFirstWinsRow : OpenClaim := { program := "ytpbnkkgfjmkcdaa", sum := "58dcef74e3bd0b5a36973b861c3e02d178b5428c27519426add3c4de871bdaec", func := "loop.example/g00504/laws.FnFirstWins", spec := "fnFirstWins", unfollowed := true, recurses := true, apart := false }
def FnFirstWinsSaid : Prop := fnFirstWinsRow.holds Try.pinned (OpenSpec.ofChange fnFirstWinsSpec)

/-- ITS FALSE NEIGHBOUR: 'it returns false'. Refute it at one input. -/
def fnFirstWinsWrong : ChangeSpec := { name := "fnFirstWins", fn := fun _ => fun
  | [d] => { results := [.lit (.bool false)], args := [d] }
  | _ => none }
def FnFirstWinsWrongFalsely : Prop := fnFirstWinsRow.holds Try.pinned (OpenSpec.ofChange fnFirstWinsWrong)

/-- 'laws.FnTakenIn': WHATEVER THE INPUT: true; the input reads as it did. -/
def fnTakenInSpec : ChangeSpec := { name := "fnTakenIn", fn := fun _ => fun
  | [d] => { results := [.lit (.bool true)], args := [d] }
  | _ => none }
def fnTakenInRow : OpenClaim := { program := "ytpbnkkgfjmkcdaa", sum := "58dcef74e3bd0b5a36973b861c3e02d178b5428c27519426add3c4de871bdaec", func := "loop.example/g00504/laws.FnTakenIn", spec := "fnTakenIn", apart := false }
def FnTakenInSaid : Prop := fnTakenInRow.holds Try.pinned (OpenSpec.ofChange fnTakenInSpec)

/-- ITS FALSE NEIGHBOUR: 'it returns false'. Refute it at one input. -/
def fnTakenInWrong : ChangeSpec := { name := "fnTakenIn", fn := fun _ => fun
  | [d] => { results := [.lit (.bool false)], args := [d] }
  | _ => none }
def FnTakenInWrongFalsely : Prop := fnTakenInRow.holds Try.pinned (OpenSpec.ofChange fnTakenInWrong)

/-- 'laws.FnExactArrived': WHATEVER THE INPUT: true; the input reads as it did. -/
def fnExactArrivedSpec : ChangeSpec := { name := "fnExactArrived", fn := fun _ => fun
  | [d1, d2, d3, d4] => { results := [.lit (.bool true)], args := [d1, d2, d3, d4] }
  | _ => none }
def fnExactArrivedRow : OpenClaim := { program := "ytpbnkkgfjmkcdaa", sum := "58dcef74e3bd0b5a36973b861c3e02d178b5428c27519426add3c4de871bdaec", func := "loop.example/g00504/laws.FnExactArrived", spec := "fnExactArrived", unfollowed := true, recurses := true, apart := false }
def FnExactArrivedSaid : Prop := fnExactArrivedRow.holds Try.pinned (OpenSpec.ofChange fnExactArrivedSpec)

/-- ITS FALSE NEIGHBOUR: 'it returns false'. Refute it at one input. -/
def fnExactArrivedWrong : ChangeSpec := { name := "fnExactArrived", fn := fun _ => fun
  | [d1, d2, d3, d4] => { results := [.lit (.bool false)], args := [d1, d2, d3, d4] }
  | _ => none }
def FnExactArrivedWrongFalsely : Prop := fnExactArrivedRow.holds Try.pinned (OpenSpec.ofChange fnExactArrivedWrong)

/- THE SECOND FORM. 'bulk': how many values and letters a reading holds, each counted each time it is reached (what is shared counts as often as it is met; a slice's spare places count too). A statement '..UptoSaid' is the law's where the arguments, and the package variables that the reading takes, are together of bulk at most 1048576: NARROWER than '..Said'. Prove '..Said' where nothing that the law and all that it calls make is longer than what came in: it says more and counts as full. Else prove '..UptoSaid'. A law counts once. -/
mutual
def uptoBulk {H : Type} : DataW H → Nat
  | .lit (.string bytes) => bytes.length + 1
  | .lit _ => 1
  | .nil => 1
  | .ptr d => uptoBulk d + 1
  | .slice elems spare => uptoBulkAll elems + uptoBulkAll spare + 1
  | .agg parts => uptoBulkAll parts + 1
  | .iface _ d => uptoBulk d + 1
  | .map entries => uptoBulkEntries entries + 1
  | .held _ => 1
def uptoBulkAll {H : Type} : List (DataW H) → Nat
  | [] => 0
  | d :: r => uptoBulk d + uptoBulkAll r
def uptoBulkEntries {H : Type} : List (Lit × DataW H) → Nat
  | [] => 0
  | x :: r => uptoBulkEntry x + uptoBulkEntries r
def uptoBulkEntry {H : Type} : Lit × DataW H → Nat
  | (.string bytes, d) => bytes.length + uptoBulk d + 1
  | (_, d) => uptoBulk d + 1
 end
def uptoSmall : (H : Type) → List (DataW H) → Bool := fun _ ds => decide (uptoBulkAll ds ≤ 1048576)
def OpenSpec.upto (s : _root_.Go.ChangeSpec) : _root_.Go.OpenSpec := { _root_.Go.OpenSpec.ofChange s with cond := some uptoSmall }

/-- 'laws.FnReceiver', WHERE WHAT IT READS IS OF BULK AT MOST 1048576: true; the input reads as it did. -/
def fnReceiverUptoRow : OpenClaim := { program := "ytpbnkkgfjmkcdaa", sum := "58dcef74e3bd0b5a36973b861c3e02d178b5428c27519426add3c4de871bdaec", func := "loop.example/g00504/laws.FnReceiver", spec := "fnReceiver", unfollowed := true, recurses := true, apart := false, narrowed := true }
def FnReceiverUptoSaid : Prop := fnReceiverUptoRow.holds Try.pinned (OpenSpec.upto fnReceiverSpec)

/-- 'laws.FnAssembly', WHERE WHAT IT READS IS OF BULK AT MOST 1048576: true; the input reads as it did. -/
def fnAssemblyUptoRow : OpenClaim := { program := "ytpbnkkgfjmkcdaa", sum := "58dcef74e3bd0b5a36973b861c3e02d178b5428c27519426add3c4de871bdaec", func := "loop.example/g00504/laws.FnAssembly", spec := "fnAssembly", unfollowed := true, recurses := true, apart := false, narrowed := true }
def FnAssemblyUptoSaid : Prop := fnAssemblyUptoRow.holds Try.pinned (OpenSpec.upto fnAssemblySpec)

/-- 'laws.FnFirstWins', WHERE WHAT IT READS IS OF BULK AT MOST 1048576: true; the input reads as it did. -/
def fnFirstWinsUptoRow : OpenClaim := { program := "ytpbnkkgfjmkcdaa", sum := "58dcef74e3bd0b5a36973b861c3e02d178b5428c27519426add3c4de871bdaec", func := "loop.example/g00504/laws.FnFirstWins", spec := "fnFirstWins", unfollowed := true, recurses := true, apart := false, narrowed := true }
def FnFirstWinsUptoSaid : Prop := fnFirstWinsUptoRow.holds Try.pinned (OpenSpec.upto fnFirstWinsSpec)

/-- 'laws.FnTakenIn', WHERE WHAT IT READS IS OF BULK AT MOST 1048576: true; the input reads as it did. -/
def fnTakenInUptoRow : OpenClaim := { program := "ytpbnkkgfjmkcdaa", sum := "58dcef74e3bd0b5a36973b861c3e02d178b5428c27519426add3c4de871bdaec", func := "loop.example/g00504/laws.FnTakenIn", spec := "fnTakenIn", apart := false, narrowed := true }
def FnTakenInUptoSaid : Prop := fnTakenInUptoRow.holds Try.pinned (OpenSpec.upto fnTakenInSpec)

/-- 'laws.FnExactArrived', WHERE WHAT IT READS IS OF BULK AT MOST 1048576: true; the input reads as it did. -/
def fnExactArrivedUptoRow : OpenClaim := { program := "ytpbnkkgfjmkcdaa", sum := "58dcef74e3bd0b5a36973b861c3e02d178b5428c27519426add3c4de871bdaec", func := "loop.example/g00504/laws.FnExactArrived", spec := "fnExactArrived", unfollowed := true, recurses := true, apart := false, narrowed := true }
def FnExactArrivedUptoSaid : Prop := fnExactArrivedUptoRow.holds Try.pinned (OpenSpec.upto fnExactArrivedSpec)

end Rows
end Go.Proofs.Ytpbnkkgfjmkcdaa
