/-
  No cell of these rows narrows 'for every input' (looked for: loops, veiled, ifaces, maps, wideKeys, modest, calm, conditions, laid).
  DERIVED. THE GIVEN ROWS OF THIS SEAT. 10 by the template 'for every input the law returns true; each argument reads behind the call as it read before'; 0 by the template 'total and deterministic' (their statements: YtgneinjnkmaecaaTotals.lean).
  GIVEN WITH THE SEED: the statements are not yours to turn. If you find one false, say at which input.
  Laid BY PROGRAM, IN A SANDBOX (cutbox-rows.mjs): the forced cells as the released guide's own fill.sh prints them over the translation 662b62b1afc9f42c… (all of the seat's roots in one cut). By AI agents, Wed Nov 11 2026. No macro, syntax, notation, axiom, sorry.
-/
import Derived.Test.YtgneinjnkmaecaaChecked
import GoSem.Claim
import GoSem.ClaimJoined
import GoSem.ClaimMapViews
import Derived.JoinedTies
import Derived.KernelRfl
namespace Go.Proofs.Ytgneinjnkmaecaa
/- THE CELL 'sum', in the pinned program and in every row, IS THE sha256 OF THE DUMP (.gsa) THAT YtgneinjnkmaecaaProg.lean LOADS. Nothing in Lean hashes anything: it is a label: what it is worth is what the hold of that sum in a sandbox is worth. -/
noncomputable def Try.pinned : Pinned := { name := "ytgneinjnkmaecaa", sum := "662b62b1afc9f42cb37a9475e35bb5d7432166be1ee1a893a78badcbb549f339", checked := Try.checked }
namespace Rows
def none {H : Type} : Left H := { results := [], args := [] }

/-- 'laws.FnReceiver': WHATEVER THE INPUT: true; the input reads as it did. -/
def fnReceiverSpec : ChangeSpec := { name := "fnReceiver", fn := fun _ => fun
  | [d] => { results := [.lit (.bool true)], args := [d] }
  | _ => none }
def fnReceiverRow : OpenClaim := { program := "ytgneinjnkmaecaa", sum := "662b62b1afc9f42cb37a9475e35bb5d7432166be1ee1a893a78badcbb549f339", func := "loop.example/g00504/laws.FnReceiver", spec := "fnReceiver", unfollowed := true, recurses := true, apart := false }
def FnReceiverSaid : Prop := fnReceiverRow.holds Try.pinned (OpenSpec.ofChange fnReceiverSpec)

/-- ITS FALSE NEIGHBOUR: 'it returns false'. Refute it at one input. -/
def fnReceiverWrong : ChangeSpec := { name := "fnReceiver", fn := fun _ => fun
  | [d] => { results := [.lit (.bool false)], args := [d] }
  | _ => none }
def FnReceiverWrongFalsely : Prop := fnReceiverRow.holds Try.pinned (OpenSpec.ofChange fnReceiverWrong)

/-- 'laws.FnAssembly': WHATEVER THE INPUT: true; the input reads as it did. -/
def fnAssemblySpec : ChangeSpec := { name := "fnAssembly", fn := fun _ => fun
  | [d] => { results := [.lit (.bool true)], args := [d] }
  | _ => none }
def fnAssemblyRow : OpenClaim := { program := "ytgneinjnkmaecaa", sum := "662b62b1afc9f42cb37a9475e35bb5d7432166be1ee1a893a78badcbb549f339", func := "loop.example/g00504/laws.FnAssembly", spec := "fnAssembly", unfollowed := true, recurses := true, apart := false }
def FnAssemblySaid : Prop := fnAssemblyRow.holds Try.pinned (OpenSpec.ofChange fnAssemblySpec)

/-- ITS FALSE NEIGHBOUR: 'it returns false'. Refute it at one input. -/
def fnAssemblyWrong : ChangeSpec := { name := "fnAssembly", fn := fun _ => fun
  | [d] => { results := [.lit (.bool false)], args := [d] }
  | _ => none }
def FnAssemblyWrongFalsely : Prop := fnAssemblyRow.holds Try.pinned (OpenSpec.ofChange fnAssemblyWrong)

/-- 'laws.FnFirstWins': WHATEVER THE INPUT: true; the input reads as it did. -/
def fnFirstWinsSpec : ChangeSpec := { name := "fnFirstWins", fn := fun _ => fun
  | [d] => { results := [.lit (.bool true)], args := [d] }
  | _ => none }
def fnFirstWinsRow : OpenClaim := { program := "ytgneinjnkmaecaa", sum := "662b62b1afc9f42cb37a9475e35bb5d7432166be1ee1a893a78badcbb549f339", func := "loop.example/g00504/laws.FnFirstWins", spec := "fnFirstWins", unfollowed := true, recurses := true, apart := false }
def FnFirstWinsSaid : Prop := fnFirstWinsRow.holds Try.pinned (OpenSpec.ofChange fnFirstWinsSpec)

/-- ITS FALSE NEIGHBOUR: 'it returns false'. Refute it at one input. -/
def fnFirstWinsWrong : ChangeSpec := { name := "fnFirstWins", fn := fun _ => fun
  | [d] => { results := [.lit (.bool false)], args := [d] }
  | _ => none }
def FnFirstWinsWrongFalsely : Prop := fnFirstWinsRow.holds Try.pinned (OpenSpec.ofChange fnFirstWinsWrong)

/-- 'laws.FnTakenIn': WHATEVER THE INPUT: true; the input reads as it did. -/
def fnTakenInSpec : ChangeSpec := { name := "fnTakenIn", fn := fun _ => fun
  | [d] => { results := [.lit (.bool true)], args := [d] }
  | _ => none }
def fnTakenInRow : OpenClaim := { program := "ytgneinjnkmaecaa", sum := "662b62b1afc9f42cb37a9475e35bb5d7432166be1ee1a893a78badcbb549f339", func := "loop.example/g00504/laws.FnTakenIn", spec := "fnTakenIn", apart := false }
def FnTakenInSaid : Prop := fnTakenInRow.holds Try.pinned (OpenSpec.ofChange fnTakenInSpec)

/-- ITS FALSE NEIGHBOUR: 'it returns false'. Refute it at one input. -/
def fnTakenInWrong : ChangeSpec := { name := "fnTakenIn", fn := fun _ => fun
  | [d] => { results := [.lit (.bool false)], args := [d] }
  | _ => none }
def FnTakenInWrongFalsely : Prop := fnTakenInRow.holds Try.pinned (OpenSpec.ofChange fnTakenInWrong)

/-- 'laws.FnExactReceiverOk': WHATEVER THE INPUT: true; the input reads as it did. -/
def fnExactReceiverOkSpec : ChangeSpec := { name := "fnExactReceiverOk", fn := fun _ => fun
  | [d] => { results := [.lit (.bool true)], args := [d] }
  | _ => none }
def fnExactReceiverOkRow : OpenClaim := { program := "ytgneinjnkmaecaa", sum := "662b62b1afc9f42cb37a9475e35bb5d7432166be1ee1a893a78badcbb549f339", func := "loop.example/g00504/laws.FnExactReceiverOk", spec := "fnExactReceiverOk", apart := false }
def FnExactReceiverOkSaid : Prop := fnExactReceiverOkRow.holds Try.pinned (OpenSpec.ofChange fnExactReceiverOkSpec)

/-- ITS FALSE NEIGHBOUR: 'it returns false'. Refute it at one input. -/
def fnExactReceiverOkWrong : ChangeSpec := { name := "fnExactReceiverOk", fn := fun _ => fun
  | [d] => { results := [.lit (.bool false)], args := [d] }
  | _ => none }
def FnExactReceiverOkWrongFalsely : Prop := fnExactReceiverOkRow.holds Try.pinned (OpenSpec.ofChange fnExactReceiverOkWrong)

/-- 'laws.FnExactWindowOf': WHATEVER THE INPUT: true; the input reads as it did. -/
def fnExactWindowOfSpec : ChangeSpec := { name := "fnExactWindowOf", fn := fun _ => fun
  | [d] => { results := [.lit (.bool true)], args := [d] }
  | _ => none }
def fnExactWindowOfRow : OpenClaim := { program := "ytgneinjnkmaecaa", sum := "662b62b1afc9f42cb37a9475e35bb5d7432166be1ee1a893a78badcbb549f339", func := "loop.example/g00504/laws.FnExactWindowOf", spec := "fnExactWindowOf", apart := false }
def FnExactWindowOfSaid : Prop := fnExactWindowOfRow.holds Try.pinned (OpenSpec.ofChange fnExactWindowOfSpec)

/-- ITS FALSE NEIGHBOUR: 'it returns false'. Refute it at one input. -/
def fnExactWindowOfWrong : ChangeSpec := { name := "fnExactWindowOf", fn := fun _ => fun
  | [d] => { results := [.lit (.bool false)], args := [d] }
  | _ => none }
def FnExactWindowOfWrongFalsely : Prop := fnExactWindowOfRow.holds Try.pinned (OpenSpec.ofChange fnExactWindowOfWrong)

/-- 'laws.FnExactArrived': WHATEVER THE INPUT: true; the input reads as it did. -/
def fnExactArrivedSpec : ChangeSpec := { name := "fnExactArrived", fn := fun _ => fun
  | [d1, d2, d3, d4] => { results := [.lit (.bool true)], args := [d1, d2, d3, d4] }
  | _ => none }
def fnExactArrivedRow : OpenClaim := { program := "ytgneinjnkmaecaa", sum := "662b62b1afc9f42cb37a9475e35bb5d7432166be1ee1a893a78badcbb549f339", func := "loop.example/g00504/laws.FnExactArrived", spec := "fnExactArrived", unfollowed := true, recurses := true, apart := false }
def FnExactArrivedSaid : Prop := fnExactArrivedRow.holds Try.pinned (OpenSpec.ofChange fnExactArrivedSpec)

/-- ITS FALSE NEIGHBOUR: 'it returns false'. Refute it at one input. -/
def fnExactArrivedWrong : ChangeSpec := { name := "fnExactArrived", fn := fun _ => fun
  | [d1, d2, d3, d4] => { results := [.lit (.bool false)], args := [d1, d2, d3, d4] }
  | _ => none }
def FnExactArrivedWrongFalsely : Prop := fnExactArrivedRow.holds Try.pinned (OpenSpec.ofChange fnExactArrivedWrong)

/-- 'laws.FnExactTakenIn': WHATEVER THE INPUT: true; the input reads as it did. -/
def fnExactTakenInSpec : ChangeSpec := { name := "fnExactTakenIn", fn := fun _ => fun
  | [d1, d2] => { results := [.lit (.bool true)], args := [d1, d2] }
  | _ => none }
def fnExactTakenInRow : OpenClaim := { program := "ytgneinjnkmaecaa", sum := "662b62b1afc9f42cb37a9475e35bb5d7432166be1ee1a893a78badcbb549f339", func := "loop.example/g00504/laws.FnExactTakenIn", spec := "fnExactTakenIn", apart := false }
def FnExactTakenInSaid : Prop := fnExactTakenInRow.holds Try.pinned (OpenSpec.ofChange fnExactTakenInSpec)

/-- ITS FALSE NEIGHBOUR: 'it returns false'. Refute it at one input. -/
def fnExactTakenInWrong : ChangeSpec := { name := "fnExactTakenIn", fn := fun _ => fun
  | [d1, d2] => { results := [.lit (.bool false)], args := [d1, d2] }
  | _ => none }
def FnExactTakenInWrongFalsely : Prop := fnExactTakenInRow.holds Try.pinned (OpenSpec.ofChange fnExactTakenInWrong)

/-- 'laws.FnExactSameReceiver': WHATEVER THE INPUT: true; the input reads as it did. -/
def fnExactSameReceiverSpec : ChangeSpec := { name := "fnExactSameReceiver", fn := fun _ => fun
  | [d1, d2] => { results := [.lit (.bool true)], args := [d1, d2] }
  | _ => none }
def fnExactSameReceiverRow : OpenClaim := { program := "ytgneinjnkmaecaa", sum := "662b62b1afc9f42cb37a9475e35bb5d7432166be1ee1a893a78badcbb549f339", func := "loop.example/g00504/laws.FnExactSameReceiver", spec := "fnExactSameReceiver", apart := false }
def FnExactSameReceiverSaid : Prop := fnExactSameReceiverRow.holds Try.pinned (OpenSpec.ofChange fnExactSameReceiverSpec)

/-- ITS FALSE NEIGHBOUR: 'it returns false'. Refute it at one input. -/
def fnExactSameReceiverWrong : ChangeSpec := { name := "fnExactSameReceiver", fn := fun _ => fun
  | [d1, d2] => { results := [.lit (.bool false)], args := [d1, d2] }
  | _ => none }
def FnExactSameReceiverWrongFalsely : Prop := fnExactSameReceiverRow.holds Try.pinned (OpenSpec.ofChange fnExactSameReceiverWrong)

/-- 'laws.FnExactReceiverNew': WHATEVER THE INPUT: true; the input reads as it did. -/
def fnExactReceiverNewSpec : ChangeSpec := { name := "fnExactReceiverNew", fn := fun _ => fun
  | [d] => { results := [.lit (.bool true)], args := [d] }
  | _ => none }
def fnExactReceiverNewRow : OpenClaim := { program := "ytgneinjnkmaecaa", sum := "662b62b1afc9f42cb37a9475e35bb5d7432166be1ee1a893a78badcbb549f339", func := "loop.example/g00504/laws.FnExactReceiverNew", spec := "fnExactReceiverNew", apart := false }
def FnExactReceiverNewSaid : Prop := fnExactReceiverNewRow.holds Try.pinned (OpenSpec.ofChange fnExactReceiverNewSpec)

/-- ITS FALSE NEIGHBOUR: 'it returns false'. Refute it at one input. -/
def fnExactReceiverNewWrong : ChangeSpec := { name := "fnExactReceiverNew", fn := fun _ => fun
  | [d] => { results := [.lit (.bool false)], args := [d] }
  | _ => none }
def FnExactReceiverNewWrongFalsely : Prop := fnExactReceiverNewRow.holds Try.pinned (OpenSpec.ofChange fnExactReceiverNewWrong)

/- THE SECOND FORM. 'bulk': how many values and letters a reading holds, each counted each time it is reached (what is shared counts as often as it is met; a slice's spare places count too). A statement '..UptoSaid' is the law's where the arguments, and the package variables that the reading takes, are together of bulk at most 1048576: NARROWER than '..Said'. Prove '..Said' where nothing that the law and all that it calls make is longer than what came in: it says more and counts as full. Else prove '..UptoSaid'. A law counts once. -/
mutual
def uptoBulk {H : Type} : DataW H → Nat
  | .lit (.string bytes) => bytes.length + 1
  | .lit _ => 1
  | .nil => 1
  | .ptr d => uptoBulk d + 1
  | .slice elems spare => uptoBulkAll elems + uptoBulkAll spare + 1
  | .agg parts => uptoBulkAll parts + 1
  | .iface _ d => uptoBulk d + 1
  | .map entries => uptoBulkEntries entries + 1
  | .held _ => 1
def uptoBulkAll {H : Type} : List (DataW H) → Nat
  | [] => 0
  | d :: r => uptoBulk d + uptoBulkAll r
def uptoBulkEntries {H : Type} : List (Lit × DataW H) → Nat
  | [] => 0
  | x :: r => uptoBulkEntry x + uptoBulkEntries r
def uptoBulkEntry {H : Type} : Lit × DataW H → Nat
  | (.string bytes, d) => bytes.length + uptoBulk d + 1
  | (_, d) => uptoBulk d + 1
 end
def uptoSmall : (H : Type) → List (DataW H) → Bool := fun _ ds => decide (uptoBulkAll ds ≤ 1048576)
def OpenSpec.upto (s : _root_.Go.ChangeSpec) : _root_.Go.OpenSpec := { _root_.Go.OpenSpec.ofChange s with cond := some uptoSmall }

/-- 'laws.FnReceiver', WHERE WHAT IT READS IS OF BULK AT MOST 1048576: true; the input reads as it did. -/
def fnReceiverUptoRow : OpenClaim := { program := "ytgneinjnkmaecaa", sum := "662b62b1afc9f42cb37a9475e35bb5d7432166be1ee1a893a78badcbb549f339", func := "loop.example/g00504/laws.FnReceiver", spec := "fnReceiver", unfollowed := true, recurses := true, apart := false, narrowed := true }
def FnReceiverUptoSaid : Prop := fnReceiverUptoRow.holds Try.pinned (OpenSpec.upto fnReceiverSpec)

/-- 'laws.FnAssembly', WHERE WHAT IT READS IS OF BULK AT MOST 1048576: true; the input reads as it did. -/
def fnAssemblyUptoRow : OpenClaim := { program := "ytgneinjnkmaecaa", sum := "662b62b1afc9f42cb37a9475e35bb5d7432166be1ee1a893a78badcbb549f339", func := "loop.example/g00504/laws.FnAssembly", spec := "fnAssembly", unfollowed := true, recurses := true, apart := false, narrowed := true }
def FnAssemblyUptoSaid : Prop := fnAssemblyUptoRow.holds Try.pinned (OpenSpec.upto fnAssemblySpec)

/-- 'laws.FnFirstWins', WHERE WHAT IT READS IS OF BULK AT MOST 1048576: true; the input reads as it did. -/
def fnFirstWinsUptoRow : OpenClaim := { program := "ytgneinjnkmaecaa", sum := "662b62b1afc9f42cb37a9475e35bb5d7432166be1ee1a893a78badcbb549f339", func := "loop.example/g00504/laws.FnFirstWins", spec := "fnFirstWins", unfollowed := true, recurses := true, apart := false, narrowed := true }
def FnFirstWinsUptoSaid : Prop := fnFirstWinsUptoRow.holds Try.pinned (OpenSpec.upto fnFirstWinsSpec)

/-- 'laws.FnTakenIn', WHERE WHAT IT READS IS OF BULK AT MOST 1048576: true; the input reads as it did. -/
def fnTakenInUptoRow : OpenClaim := { program := "ytgneinjnkmaecaa", sum := "662b62b1afc9f42cb37a9475e35bb5d7432166be1ee1a893a78badcbb549f339", func := "loop.example/g00504/laws.FnTakenIn", spec := "fnTakenIn", apart := false, narrowed := true }
def FnTakenInUptoSaid : Prop := fnTakenInUptoRow.holds Try.pinned (OpenSpec.upto fnTakenInSpec)

/-- 'laws.FnExactReceiverOk', WHERE WHAT IT READS IS OF BULK AT MOST 1048576: true; the input reads as it did. -/
def fnExactReceiverOkUptoRow : OpenClaim := { program := "ytgneinjnkmaecaa", sum := "662b62b1afc9f42cb37a9475e35bb5d7432166be1ee1a893a78badcbb549f339", func := "loop.example/g00504/laws.FnExactReceiverOk", spec := "fnExactReceiverOk", apart := false, narrowed := true }
def FnExactReceiverOkUptoSaid : Prop := fnExactReceiverOkUptoRow.holds Try.pinned (OpenSpec.upto fnExactReceiverOkSpec)

/-- 'laws.FnExactWindowOf', WHERE WHAT IT READS IS OF BULK AT MOST 1048576: true; the input reads as it did. -/
def fnExactWindowOfUptoRow : OpenClaim := { program := "ytgneinjnkmaecaa", sum := "662b62b1afc9f42cb37a9475e35bb5d7432166be1ee1a893a78badcbb549f339", func := "loop.example/g00504/laws.FnExactWindowOf", spec := "fnExactWindowOf", apart := false, narrowed := true }
def FnExactWindowOfUptoSaid : Prop := fnExactWindowOfUptoRow.holds Try.pinned (OpenSpec.upto fnExactWindowOfSpec)

/-- 'laws.FnExactArrived', WHERE WHAT IT READS IS OF BULK AT MOST 1048576: true; the input reads as it did. -/
def fnExactArrivedUptoRow : OpenClaim := { program := "ytgneinjnkmaecaa", sum := "662b62b1afc9f42cb37a9475e35bb5d7432166be1ee1a893a78badcbb549f339", func := "loop.example/g00504/laws.FnExactArrived", spec := "fnExactArrived", unfollowed := true, recurses := true, apart := false, narrowed := true }
def FnExactArrivedUptoSaid : Prop := fnExactArrivedUptoRow.holds Try.pinned (OpenSpec.upto fnExactArrivedSpec)

/-- 'laws.FnExactTakenIn', WHERE WHAT IT READS IS OF BULK AT MOST 1048576: true; the input reads as it did. -/
def fnExactTakenInUptoRow : OpenClaim := { program := "ytgneinjnkmaecaa", sum := "662b62b1afc9f42cb37a9475e35bb5d7432166be1ee1a893a78badcbb549f339", func := "loop.example/g00504/laws.FnExactTakenIn", spec := "fnExactTakenIn", apart := false, narrowed := true }
def FnExactTakenInUptoSaid : Prop := fnExactTakenInUptoRow.holds Try.pinned (OpenSpec.upto fnExactTakenInSpec)

/-- 'laws.FnExactSameReceiver', WHERE WHAT IT READS IS OF BULK AT MOST 1048576: true; the input reads as it did. -/
def fnExactSameReceiverUptoRow : OpenClaim := { program := "ytgneinjnkmaecaa", sum := "662b62b1afc9f42cb37a9475e35bb5d7432166be1ee1a893a78badcbb549f339", func := "loop.example/g00504/laws.FnExactSameReceiver", spec := "fnExactSameReceiver", apart := false, narrowed := true }
def FnExactSameReceiverUptoSaid : Prop := fnExactSameReceiverUptoRow.holds Try.pinned (OpenSpec.upto fnExactSameReceiverSpec)

/-- 'laws.FnExactReceiverNew', WHERE WHAT IT READS IS OF BULK AT MOST 1048576: true; the input reads as it did. -/
def fnExactReceiverNewUptoRow : OpenClaim := { program := "ytgneinjnkmaecaa", sum := "662b62b1afc9f42cb37a9475e35bb5d7432166be1ee1a893a78badcbb549f339", func := "loop.example/g00504/laws.FnExactReceiverNew", spec := "fnExactReceiverNew", apart := false, narrowed := true }
def FnExactReceiverNewUptoSaid : Prop := fnExactReceiverNewUptoRow.holds Try.pinned (OpenSpec.upto fnExactReceiverNewSpec)

end Rows
end Go.Proofs.Ytgneinjnkmaecaa
