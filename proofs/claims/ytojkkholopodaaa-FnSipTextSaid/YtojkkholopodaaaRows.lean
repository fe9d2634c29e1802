/-
  No cell of these rows narrows 'for every input' (looked for: loops, veiled, ifaces, maps, wideKeys, modest, calm, conditions, laid).
  DERIVED. THE GIVEN ROWS OF THIS SEAT. 7 by the template 'for every input the law returns true; each argument reads behind the call as it read before'; 0 by the template 'total and deterministic' (their statements: YtojkkholopodaaaTotals.lean).
  GIVEN WITH THE SEED: the statements are not yours to turn. If you find one false, say at which input.
  Laid BY PROGRAM, IN A SANDBOX (cutbox-rows.mjs): the forced cells as the released guide's own fill.sh prints them over the translation 9d3cbebffad69bc3… (all of the seat's roots in one cut). By AI agents, Wed Nov 11 2026. No macro, syntax, notation, axiom, sorry.
-/
import Derived.Test.YtojkkholopodaaaChecked
import GoSem.Claim
import GoSem.ClaimJoined
import GoSem.ClaimMapViews
import Derived.JoinedTies
import Derived.KernelRfl
namespace Go.Proofs.Ytojkkholopodaaa
/- THE CELL 'sum', in the pinned program and in every row, IS THE sha256 OF THE DUMP (.gsa) THAT YtojkkholopodaaaProg.lean LOADS. Nothing in Lean hashes anything: it is a label: what it is worth is what the hold of that sum in a sandbox is worth. -/
noncomputable def Try.pinned : Pinned := { name := "ytojkkholopodaaa", sum := "9d3cbebffad69bc35c29e796f97a198fd74a731cdc37185feeb214a3cec707df", checked := Try.checked }
namespace Rows
def none {H : Type} : Left H := { results := [], args := [] }

/-- 'laws.FnSip': WHATEVER THE INPUT: true; the input reads as it did. -/
def fnSipSpec : ChangeSpec := { name := "fnSip", fn := fun _ => fun
  | [d] => { results := [.lit (.bool true)], args := [d] }
  | _ => none }
def fnSipRow : OpenClaim := { program := "ytojkkholopodaaa", sum := "9d3cbebffad69bc35c29e796f97a198fd74a731cdc37185feeb214a3cec707df", func := "loop.example/g00504/laws.FnSip", spec := "fnSip", apart := false }
def FnSipSaid : Prop := fnSipRow.holds Try.pinned (OpenSpec.ofChange fnSipSpec)

/-- ITS FALSE NEIGHBOUR: 'it returns false'. Refute it at one input. -/
def fnSipWrong : ChangeSpec := { name := "fnSip", fn := fun _ => fun
  | [d] => { results := [.lit (.bool false)], args := [d] }
  | _ => none }
def FnSipWrongFalsely : Prop := fnSipRow.holds Try.pinned (OpenSpec.ofChange fnSipWrong)

/-- 'laws.FnSipText': WHATEVER THE INPUT: true; the input reads as it did. -/
def fnSipTextSpec : ChangeSpec := { name := "fnSipText", fn := fun _ => fun
  | [d] => { results := [.lit (.bool true)], args := [d] }
  | _ => none }
def fnSipTextRow : OpenClaim := { program := "ytojkkholopodaaa", sum := "9d3cbebffad69bc35c29e796f97a198fd74a731cdc37185feeb214a3cec707df", func := "loop.example/g00504/laws.FnSipText", spec := "fnSipText", apart := false }
def FnSipTextSaid : Prop := fnSipTextRow.holds Try.pinned (OpenSpec.ofChange fnSipTextSpec)

/-- ITS FALSE NEIGHBOUR: 'it returns false'. Refute it at one input. -/
def fnSipTextWrong : ChangeSpec := { name := "fnSipText", fn := fun _ => fun
  | [d] => { results := [.lit (.bool false)], args := [d] }
  | _ => none }
def FnSipTextWrongFalsely : Prop := fnSipTextRow.holds Try.pinned (OpenSpec.ofChange fnSipTextWrong)

/-- 'laws.FnExactSipStart': WHATEVER THE INPUT: true; the input reads as it did. -/
def fnExactSipStartSpec : ChangeSpec := { name := "fnExactSipStart", fn := fun _ => fun
  | [d1, d2] => { results := [.lit (.bool true)], args := [d1, d2] }
  | _ => none }
def fnExactSipStartRow : OpenClaim := { program := "ytojkkholopodaaa", sum := "9d3cbebffad69bc35c29e796f97a198fd74a731cdc37185feeb214a3cec707df", func := "loop.example/g00504/laws.FnExactSipStart", spec := "fnExactSipStart", apart := false }
def FnExactSipStartSaid : Prop := fnExactSipStartRow.holds Try.pinned (OpenSpec.ofChange fnExactSipStartSpec)

/-- ITS FALSE NEIGHBOUR: 'it returns false'. Refute it at one input. -/
def fnExactSipStartWrong : ChangeSpec := { name := "fnExactSipStart", fn := fun _ => fun
  | [d1, d2] => { results := [.lit (.bool false)], args := [d1, d2] }
  | _ => none }
def FnExactSipStartWrongFalsely : Prop := fnExactSipStartRow.holds Try.pinned (OpenSpec.ofChange fnExactSipStartWrong)

/-- 'laws.FnExactSipRound': WHATEVER THE INPUT: true; the input reads as it did. -/
def fnExactSipRoundSpec : ChangeSpec := { name := "fnExactSipRound", fn := fun _ => fun
  | [d] => { results := [.lit (.bool true)], args := [d] }
  | _ => none }
def fnExactSipRoundRow : OpenClaim := { program := "ytojkkholopodaaa", sum := "9d3cbebffad69bc35c29e796f97a198fd74a731cdc37185feeb214a3cec707df", func := "loop.example/g00504/laws.FnExactSipRound", spec := "fnExactSipRound", apart := false }
def FnExactSipRoundSaid : Prop := fnExactSipRoundRow.holds Try.pinned (OpenSpec.ofChange fnExactSipRoundSpec)

/-- ITS FALSE NEIGHBOUR: 'it returns false'. Refute it at one input. -/
def fnExactSipRoundWrong : ChangeSpec := { name := "fnExactSipRound", fn := fun _ => fun
  | [d] => { results := [.lit (.bool false)], args := [d] }
  | _ => none }
def FnExactSipRoundWrongFalsely : Prop := fnExactSipRoundRow.holds Try.pinned (OpenSpec.ofChange fnExactSipRoundWrong)

/-- 'laws.FnExactSipWord': WHATEVER THE INPUT: true; the input reads as it did. -/
def fnExactSipWordSpec : ChangeSpec := { name := "fnExactSipWord", fn := fun _ => fun
  | [d1, d2] => { results := [.lit (.bool true)], args := [d1, d2] }
  | _ => none }
def fnExactSipWordRow : OpenClaim := { program := "ytojkkholopodaaa", sum := "9d3cbebffad69bc35c29e796f97a198fd74a731cdc37185feeb214a3cec707df", func := "loop.example/g00504/laws.FnExactSipWord", spec := "fnExactSipWord", apart := false }
def FnExactSipWordSaid : Prop := fnExactSipWordRow.holds Try.pinned (OpenSpec.ofChange fnExactSipWordSpec)

/-- ITS FALSE NEIGHBOUR: 'it returns false'. Refute it at one input. -/
def fnExactSipWordWrong : ChangeSpec := { name := "fnExactSipWord", fn := fun _ => fun
  | [d1, d2] => { results := [.lit (.bool false)], args := [d1, d2] }
  | _ => none }
def FnExactSipWordWrongFalsely : Prop := fnExactSipWordRow.holds Try.pinned (OpenSpec.ofChange fnExactSipWordWrong)

/-- 'laws.FnExactSipEnd': WHATEVER THE INPUT: true; the input reads as it did. -/
def fnExactSipEndSpec : ChangeSpec := { name := "fnExactSipEnd", fn := fun _ => fun
  | [d] => { results := [.lit (.bool true)], args := [d] }
  | _ => none }
def fnExactSipEndRow : OpenClaim := { program := "ytojkkholopodaaa", sum := "9d3cbebffad69bc35c29e796f97a198fd74a731cdc37185feeb214a3cec707df", func := "loop.example/g00504/laws.FnExactSipEnd", spec := "fnExactSipEnd", apart := false }
def FnExactSipEndSaid : Prop := fnExactSipEndRow.holds Try.pinned (OpenSpec.ofChange fnExactSipEndSpec)

/-- ITS FALSE NEIGHBOUR: 'it returns false'. Refute it at one input. -/
def fnExactSipEndWrong : ChangeSpec := { name := "fnExactSipEnd", fn := fun _ => fun
  | [d] => { results := [.lit (.bool false)], args := [d] }
  | _ => none }
def FnExactSipEndWrongFalsely : Prop := fnExactSipEndRow.holds Try.pinned (OpenSpec.ofChange fnExactSipEndWrong)

/-- 'laws.FnExactSipHash': WHATEVER THE INPUT: true; the input reads as it did. -/
def fnExactSipHashSpec : ChangeSpec := { name := "fnExactSipHash", fn := fun _ => fun
  | [d1, d2, d3] => { results := [.lit (.bool true)], args := [d1, d2, d3] }
  | _ => none }
def fnExactSipHashRow : OpenClaim := { program := "ytojkkholopodaaa", sum := "9d3cbebffad69bc35c29e796f97a198fd74a731cdc37185feeb214a3cec707df", func := "loop.example/g00504/laws.FnExactSipHash", spec := "fnExactSipHash", apart := false }
def FnExactSipHashSaid : Prop := fnExactSipHashRow.holds Try.pinned (OpenSpec.ofChange fnExactSipHashSpec)

/-- ITS FALSE NEIGHBOUR: 'it returns false'. Refute it at one input. -/
def fnExactSipHashWrong : ChangeSpec := { name := "fnExactSipHash", fn := fun _ => fun
  | [d1, d2, d3] => { results := [.lit (.bool false)], args := [d1, d2, d3] }
  | _ => none }
def FnExactSipHashWrongFalsely : Prop := fnExactSipHashRow.holds Try.pinned (OpenSpec.ofChange fnExactSipHashWrong)

/- THE SECOND FORM. 'bulk': how many values and letters a reading holds, each counted each time it is reached (what is shared counts as often as it is met; a slice's spare places count too). A statement '..UptoSaid' is the law's where the arguments, and the package variables that the reading takes, are together of bulk at most 1048576: NARROWER than '..Said'. Prove '..Said' where nothing that the law and all that it calls make is longer than what came in: it says more and counts as full. Else prove '..UptoSaid'. A law counts once. -/
mutual
def uptoBulk {H : Type} : DataW H → Nat
  | .lit (.string bytes) => bytes.length + 1
  | .lit _ => 1
  | .nil => 1
  | .ptr d => uptoBulk d + 1
  | .slice elems spare => uptoBulkAll elems + uptoBulkAll spare + 1
  | .agg parts => uptoBulkAll parts + 1
  | .iface _ d => uptoBulk d + 1
  | .map entries => uptoBulkEntries entries + 1
  | .held _ => 1
def uptoBulkAll {H : Type} : List (DataW H) → Nat
  | [] => 0
  | d :: r => uptoBulk d + uptoBulkAll r
def uptoBulkEntries {H : Type} : List (Lit × DataW H) → Nat
  | [] => 0
  | x :: r => uptoBulkEntry x + uptoBulkEntries r
def uptoBulkEntry {H : Type} : Lit × DataW H → Nat
  | (.string bytes, d) => bytes.length + uptoBulk d + 1
  | (_, d) => uptoBulk d + 1
 end
def uptoSmall : (H : Type) → List (DataW H) → Bool := fun _ ds => decide (uptoBulkAll ds ≤ 1048576)
def OpenSpec.upto (s : _root_.Go.ChangeSpec) : _root_.Go.OpenSpec := { _root_.Go.OpenSpec.ofChange s with cond := some uptoSmall }

/-- 'laws.FnSip', WHERE WHAT IT READS IS OF BULK AT MOST 1048576: true; the input reads as it did. -/
def fnSipUptoRow : OpenClaim := { program := "ytojkkholopodaaa", sum := "9d3cbebffad69bc35c29e796f97a198fd74a731cdc37185feeb214a3cec707df", func := "loop.example/g00504/laws.FnSip", spec := "fnSip", apart := false, narrowed := true }
def FnSipUptoSaid : Prop := fnSipUptoRow.holds Try.pinned (OpenSpec.upto fnSipSpec)

/-- 'laws.FnSipText', WHERE WHAT IT READS IS OF BULK AT MOST 1048576: true; the input reads as it did. -/
def fnSipTextUptoRow : OpenClaim := { program := "ytojkkholopodaaa", sum := "9d3cbebffad69bc35c29e796f97a198fd74a731cdc37185feeb214a3cec707df", func := "loop.example/g00504/laws.FnSipText", spec := "fnSipText", apart := false, narrowed := true }
def FnSipTextUptoSaid : Prop := fnSipTextUptoRow.holds Try.pinned (OpenSpec.upto fnSipTextSpec)

/-- 'laws.FnExactSipStart', WHERE WHAT IT READS IS OF BULK AT MOST 1048576: true; the input reads as it did. -/
def fnExactSipStartUptoRow : OpenClaim := { program := "ytojkkholopodaaa", sum := "9d3cbebffad69bc35c29e796f97a198fd74a731cdc37185feeb214a3cec707df", func := "loop.example/g00504/laws.FnExactSipStart", spec := "fnExactSipStart", apart := false, narrowed := true }
def FnExactSipStartUptoSaid : Prop := fnExactSipStartUptoRow.holds Try.pinned (OpenSpec.upto fnExactSipStartSpec)

/-- 'laws.FnExactSipRound', WHERE WHAT IT READS IS OF BULK AT MOST 1048576: true; the input reads as it did. -/
def fnExactSipRoundUptoRow : OpenClaim := { program := "ytojkkholopodaaa", sum := "9d3cbebffad69bc35c29e796f97a198fd74a731cdc37185feeb214a3cec707df", func := "loop.example/g00504/laws.FnExactSipRound", spec := "fnExactSipRound", apart := false, narrowed := true }
def FnExactSipRoundUptoSaid : Prop := fnExactSipRoundUptoRow.holds Try.pinned (OpenSpec.upto fnExactSipRoundSpec)

/-- 'laws.FnExactSipWord', WHERE WHAT IT READS IS OF BULK AT MOST 1048576: true; the input reads as it did. -/
def fnExactSipWordUptoRow : OpenClaim := { program := "ytojkkholopodaaa", sum := "9d3cbebffad69bc35c29e796f97a198fd74a731cdc37185feeb214a3cec707df", func := "loop.example/g00504/laws.FnExactSipWord", spec := "fnExactSipWord", apart := false, narrowed := true }
def FnExactSipWordUptoSaid : Prop := fnExactSipWordUptoRow.holds Try.pinned (OpenSpec.upto fnExactSipWordSpec)

/-- 'laws.FnExactSipEnd', WHERE WHAT IT READS IS OF BULK AT MOST 1048576: true; the input reads as it did. -/
def fnExactSipEndUptoRow : OpenClaim := { program := "ytojkkholopodaaa", sum := "9d3cbebffad69bc35c29e796f97a198fd74a731cdc37185feeb214a3cec707df", func := "loop.example/g00504/laws.FnExactSipEnd", spec := "fnExactSipEnd", apart := false, narrowed := true }
def FnExactSipEndUptoSaid : Prop := fnExactSipEndUptoRow.holds Try.pinned (OpenSpec.upto fnExactSipEndSpec)

/-- 'laws.FnExactSipHash', WHERE WHAT IT READS IS OF BULK AT MOST 1048576: true; the input reads as it did. -/
def fnExactSipHashUptoRow : OpenClaim := { program := "ytojkkholopodaaa", sum := "9d3cbebffad69bc35c29e796f97a198fd74a731cdc37185feeb214a3cec707df", func := "loop.example/g00504/laws.FnExactSipHash", spec := "fnExactSipHash", apart := false, narrowed := true }
def FnExactSipHashUptoSaid : Prop := fnExactSipHashUptoRow.holds Try.pinned (OpenSpec.upto fnExactSipHashSpec)

end Rows
end Go.Proofs.Ytojkkholopodaaa
