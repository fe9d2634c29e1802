/-
  No cell of these rows narrows 'for every input' (looked for: loops, veiled, ifaces, maps, wideKeys, modest, calm, conditions, laid).
  DERIVED. THE GIVEN ROWS OF THIS SEAT. 6 by the template 'for every input the law returns true; each argument reads behind the call as it read before'; 0 by the template 'total and deterministic' (their statements: YthckbabcmmkljaaTotals.lean).
  GIVEN WITH THE SEED: the statements are not yours to turn. If you find one false, say at which input.
  Laid BY PROGRAM, IN A SANDBOX (cutbox-rows.mjs): the forced cells as the released guide's own fill.sh prints them over the translation e57a538961a7f165… (all of the seat's roots in one cut). By AI agents, Wed Nov 11 2026. No macro, syntax, notation, axiom, sorry.
-/
import Derived.Test.YthckbabcmmkljaaChecked
import GoSem.Claim
import GoSem.ClaimJoined
import GoSem.ClaimMapViews
import Derived.JoinedTies
import Derived.KernelRfl
namespace Go.Proofs.Ythckbabcmmkljaa
/- THE CELL 'sum', in the pinned program and in every row, IS THE sha256 OF THE DUMP (.gsa) THAT YthckbabcmmkljaaProg.lean LOADS. Nothing in Lean hashes anything: it is a label: what it is worth is what the hold of that sum in a sandbox is worth. -/
noncomputable def Try.pinned : Pinned := { name := "ythckbabcmmkljaa", sum := "e57a538961a7f165549f10b97e262bd6b4c5eb76b4fdb9b9c82201d0b2cf07b2", checked := Try.checked }
namespace Rows
def none {H : Type} : Left H := { results := [], args := [] }

/-- 'laws.FnCache': WHATEVER THE INPUT: true; the input reads as it did. -/
def fnCacheSpec : ChangeSpec := { name := "fnCache", fn := fun _ => fun
  | [d] => { results := [.lit (.bool true)], args := [d] }
  | _ => none }
def fnCacheRow : OpenClaim := { program := "ythckbabcmmkljaa", sum := "e57a538961a7f165549f10b97e262bd6b4c5eb76b4fdb9b9c82201d0b2cf07b2", func := "loop.example/g00504/laws.FnCache", spec := "fnCache", unfollowed := true, recurses := true, apart := false }
def FnCacheSaid : Prop := fnCacheRow.holds Try.pinned (OpenSpec.ofChange fnCacheSpec)

/-- ITS FALSE NEIGHBOUR: 'it returns false'. Refute it at one input. -/
def fnCacheWrong : ChangeSpec := { name := "fnCache", fn := fun _ => fun
  | [d] => { results := [.lit (.bool false)], args := [d] }
  | _ => none }
def FnCacheWrongFalsely : Prop := fnCacheRow.holds Try.pinned (OpenSpec.ofChange fnCacheWrong)

/-- 'laws.FnAged': WHATEVER THE INPUT: true; the input reads as it did. -/
def fnAgedSpec : ChangeSpec := { name := "fnAged", fn := fun _ => fun
  | [d] => { results := [.lit (.bool true)], args := [d] }
  | _ => none }
def fnAgedRow : OpenClaim := { program := "ythckbabcmmkljaa", sum := "e57a538961a7f165549f10b97e262bd6b4c5eb76b4fdb9b9c82201d0b2cf07b2", func := "loop.example/g00504/laws.FnAged", spec := "fnAged", unfollowed := true, recurses := true, apart := false }
def FnAgedSaid : Prop := fnAgedRow.holds Try.pinned (OpenSpec.ofChange fnAgedSpec)

/-- ITS FALSE NEIGHBOUR: 'it returns false'. Refute it at one input. -/
def fnAgedWrong : ChangeSpec := { name := "fnAged", fn := fun _ => fun
  | [d] => { results := [.lit (.bool false)], args := [d] }
  | _ => none }
def FnAgedWrongFalsely : Prop := fnAgedRow.holds Try.pinned (OpenSpec.ofChange fnAgedWrong)

/-- 'laws.FnExactCacheOk': WHATEVER THE INPUT: true; the input reads as it did. -/
def fnExactCacheOkSpec : ChangeSpec := { name := "fnExactCacheOk", fn := fun _ => fun
  | [d] => { results := [.lit (.bool true)], args := [d] }
  | _ => none }
def fnExactCacheOkRow : OpenClaim := { program := "ythckbabcmmkljaa", sum := "e57a538961a7f165549f10b97e262bd6b4c5eb76b4fdb9b9c82201d0b2cf07b2", func := "loop.example/g00504/laws.FnExactCacheOk", spec := "fnExactCacheOk", unfollowed := true, recurses := true, apart := false }
def FnExactCacheOkSaid : Prop := fnExactCacheOkRow.holds Try.pinned (OpenSpec.ofChange fnExactCacheOkSpec)

/-- ITS FALSE NEIGHBOUR: 'it returns false'. Refute it at one input. -/
def fnExactCacheOkWrong : ChangeSpec := { name := "fnExactCacheOk", fn := fun _ => fun
  | [d] => { results := [.lit (.bool false)], args := [d] }
  | _ => none }
def FnExactCacheOkWrongFalsely : Prop := fnExactCacheOkRow.holds Try.pinned (OpenSpec.ofChange fnExactCacheOkWrong)

/-- 'laws.FnExactHwOf': WHATEVER THE INPUT: true; the input reads as it did. -/
def fnExactHwOfSpec : ChangeSpec := { name := "fnExactHwOf", fn := fun _ => fun
  | [d1, d2] => { results := [.lit (.bool true)], args := [d1, d2] }
  | _ => none }
def fnExactHwOfRow : OpenClaim := { program := "ythckbabcmmkljaa", sum := "e57a538961a7f165549f10b97e262bd6b4c5eb76b4fdb9b9c82201d0b2cf07b2", func := "loop.example/g00504/laws.FnExactHwOf", spec := "fnExactHwOf", unfollowed := true, recurses := true, apart := false }
def FnExactHwOfSaid : Prop := fnExactHwOfRow.holds Try.pinned (OpenSpec.ofChange fnExactHwOfSpec)

/-- ITS FALSE NEIGHBOUR: 'it returns false'. Refute it at one input. -/
def fnExactHwOfWrong : ChangeSpec := { name := "fnExactHwOf", fn := fun _ => fun
  | [d1, d2] => { results := [.lit (.bool false)], args := [d1, d2] }
  | _ => none }
def FnExactHwOfWrongFalsely : Prop := fnExactHwOfRow.holds Try.pinned (OpenSpec.ofChange fnExactHwOfWrong)

/-- 'laws.FnExactLearned': WHATEVER THE INPUT: true; the input reads as it did. -/
def fnExactLearnedSpec : ChangeSpec := { name := "fnExactLearned", fn := fun _ => fun
  | [d1, d2, d3] => { results := [.lit (.bool true)], args := [d1, d2, d3] }
  | _ => none }
def fnExactLearnedRow : OpenClaim := { program := "ythckbabcmmkljaa", sum := "e57a538961a7f165549f10b97e262bd6b4c5eb76b4fdb9b9c82201d0b2cf07b2", func := "loop.example/g00504/laws.FnExactLearned", spec := "fnExactLearned", unfollowed := true, recurses := true, apart := false }
def FnExactLearnedSaid : Prop := fnExactLearnedRow.holds Try.pinned (OpenSpec.ofChange fnExactLearnedSpec)

/-- ITS FALSE NEIGHBOUR: 'it returns false'. Refute it at one input. -/
def fnExactLearnedWrong : ChangeSpec := { name := "fnExactLearned", fn := fun _ => fun
  | [d1, d2, d3] => { results := [.lit (.bool false)], args := [d1, d2, d3] }
  | _ => none }
def FnExactLearnedWrongFalsely : Prop := fnExactLearnedRow.holds Try.pinned (OpenSpec.ofChange fnExactLearnedWrong)

/-- 'laws.FnExactAged': WHATEVER THE INPUT: true; the input reads as it did. -/
def fnExactAgedSpec : ChangeSpec := { name := "fnExactAged", fn := fun _ => fun
  | [d] => { results := [.lit (.bool true)], args := [d] }
  | _ => none }
def fnExactAgedRow : OpenClaim := { program := "ythckbabcmmkljaa", sum := "e57a538961a7f165549f10b97e262bd6b4c5eb76b4fdb9b9c82201d0b2cf07b2", func := "loop.example/g00504/laws.FnExactAged", spec := "fnExactAged", unfollowed := true, recurses := true, apart := false }
def FnExactAgedSaid : Prop := fnExactAgedRow.holds Try.pinned (OpenSpec.ofChange fnExactAgedSpec)

/-- ITS FALSE NEIGHBOUR: 'it returns false'. Refute it at one input. -/
def fnExactAgedWrong : ChangeSpec := { name := "fnExactAged", fn := fun _ => fun
  | [d] => { results := [.lit (.bool false)], args := [d] }
  | _ => none }
def FnExactAgedWrongFalsely : Prop := fnExactAgedRow.holds Try.pinned (OpenSpec.ofChange fnExactAgedWrong)

/- THE SECOND FORM. 'bulk': how many values and letters a reading holds, each counted each time it is reached (what is shared counts as often as it is met; a slice's spare places count too). A statement '..UptoSaid' is the law's where the arguments, and the package variables that the reading takes, are together of bulk at most 1048576: NARROWER than '..Said'. Prove '..Said' where nothing that the law and all that it calls make is longer than what came in: it says more and counts as full. Else prove '..UptoSaid'. A law counts once. -/
mutual
def uptoBulk {H : Type} : DataW H → Nat
  | .lit (.string bytes) => bytes.length + 1
  | .lit _ => 1
  | .nil => 1
  | .ptr d => uptoBulk d + 1
  | .slice elems spare => uptoBulkAll elems + uptoBulkAll spare + 1
  | .agg parts => uptoBulkAll parts + 1
  | .iface _ d => uptoBulk d + 1
  | .map entries => uptoBulkEntries entries + 1
  | .held _ => 1
def uptoBulkAll {H : Type} : List (DataW H) → Nat
  | [] => 0
  | d :: r => uptoBulk d + uptoBulkAll r
def uptoBulkEntries {H : Type} : List (Lit × DataW H) → Nat
  | [] => 0
  | x :: r => uptoBulkEntry x + uptoBulkEntries r
def uptoBulkEntry {H : Type} : Lit × DataW H → Nat
  | (.string bytes, d) => bytes.length + uptoBulk d + 1
  | (_, d) => uptoBulk d + 1
 end
def uptoSmall : (H : Type) → List (DataW H) → Bool := fun _ ds => decide (uptoBulkAll ds ≤ 1048576)
def OpenSpec.upto (s : _root_.Go.ChangeSpec) : _root_.Go.OpenSpec := { _root_.Go.OpenSpec.ofChange s with cond := some uptoSmall }

/-- 'laws.FnCache', WHERE WHAT IT READS IS OF BULK AT MOST 1048576: true; the input reads as it did. -/
def fnCacheUptoRow : OpenClaim := { program := "ythckbabcmmkljaa", sum := "e57a538961a7f165549f10b97e262bd6b4c5eb76b4fdb9b9c82201d0b2cf07b2", func := "loop.example/g00504/laws.FnCache", spec := "fnCache", unfollowed := true, recurses := true, apart := false, narrowed := true }
def FnCacheUptoSaid : Prop := fnCacheUptoRow.holds Try.pinned (OpenSpec.upto fnCacheSpec)

/-- 'laws.FnAged', WHERE WHAT IT READS IS OF BULK AT MOST 1048576: true; the input reads as it did. -/
def fnAgedUptoRow : OpenClaim := { program := "ythckbabcmmkljaa", sum := "e57a538961a7f165549f10b97e262bd6b4c5eb76b4fdb9b9c82201d0b2cf07b2", func := "loop.example/g00504/laws.FnAged", spec := "fnAged", unfollowed := true, recurses := true, apart := false, narrowed := true }
def FnAgedUptoSaid : Prop := fnAgedUptoRow.holds Try.pinned (OpenSpec.upto fnAgedSpec)

/-- 'laws.FnExactCacheOk', WHERE WHAT IT READS IS OF BULK AT MOST 1048576: true; the input reads as it did. -/
def fnExactCacheOkUptoRow : OpenClaim := { program := "ythckbabcmmkljaa", sum := "e57a538961a7f165549f10b97e262bd6b4c5eb76b4fdb9b9c82201d0b2cf07b2", func := "loop.example/g00504/laws.FnExactCacheOk", spec := "fnExactCacheOk", unfollowed := true, recurses := true, apart := false, narrowed := true }
def FnExactCacheOkUptoSaid : Prop := fnExactCacheOkUptoRow.holds Try.pinned (OpenSpec.upto fnExactCacheOkSpec)

/-- 'laws.FnExactHwOf', WHERE WHAT IT READS IS OF BULK AT MOST 1048576: true; the input reads as it did. -/
def fnExactHwOfUptoRow : OpenClaim := { program := "ythckbabcmmkljaa", sum := "e57a538961a7f165549f10b97e262bd6b4c5eb76b4fdb9b9c82201d0b2cf07b2", func := "loop.example/g00504/laws.FnExactHwOf", spec := "fnExactHwOf", unfollowed := true, recurses := true, apart := false, narrowed := true }
def FnExactHwOfUptoSaid : Prop := fnExactHwOfUptoRow.holds Try.pinned (OpenSpec.upto fnExactHwOfSpec)

/-- 'laws.FnExactLearned', WHERE WHAT IT READS IS OF BULK AT MOST 1048576: true; the input reads as it did. -/
def fnExactLearnedUptoRow : OpenClaim := { program := "ythckbabcmmkljaa", sum := "e57a538961a7f165549f10b97e262bd6b4c5eb76b4fdb9b9c82201d0b2cf07b2", func := "loop.example/g00504/laws.FnExactLearned", spec := "fnExactLearned", unfollowed := true, recurses := true, apart := false, narrowed := true }
def FnExactLearnedUptoSaid : Prop := fnExactLearnedUptoRow.holds Try.pinned (OpenSpec.upto fnExactLearnedSpec)

/-- 'laws.FnExactAged', WHERE WHAT IT READS IS OF BULK AT MOST 1048576: true; the input reads as it did. -/
def fnExactAgedUptoRow : OpenClaim := { program := "ythckbabcmmkljaa", sum := "e57a538961a7f165549f10b97e262bd6b4c5eb76b4fdb9b9c82201d0b2cf07b2", func := "loop.example/g00504/laws.FnExactAged", spec := "fnExactAged", unfollowed := true, recurses := true, apart := false, narrowed := true }
def FnExactAgedUptoSaid : Prop := fnExactAgedUptoRow.holds Try.pinned (OpenSpec.upto fnExactAgedSpec)

end Rows
end Go.Proofs.Ythckbabcmmkljaa
