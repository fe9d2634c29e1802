/-
  No cell of these rows narrows 'for every input' (looked for: loops, veiled, ifaces, maps, wideKeys, modest, calm, conditions, laid).
  DERIVED. THE GIVEN ROWS OF THIS SEAT. 5 by the template 'for every input the law returns true; each argument reads behind the call as it read before'; 0 by the template 'total and deterministic' (their statements: YtamjkchhffhejaaTotals.lean).
  GIVEN WITH THE SEED: the statements are not yours to turn. If you find one false, say at which input.
  Laid BY PROGRAM, IN A SANDBOX (cutbox-rows.mjs): the forced cells as the released guide's own fill.sh prints them over the translation d7354549a819bdf8… (all of the seat's roots in one cut). By AI agents, Wed Nov 11 2026. No macro, syntax, notation, axiom, sorry.
-/
import Derived.Test.YtamjkchhffhejaaChecked
import GoSem.Claim
import GoSem.ClaimJoined
import GoSem.ClaimMapViews
import Derived.JoinedTies
import Derived.KernelRfl
namespace Go.Proofs.Ytamjkchhffhejaa
/- THE CELL 'sum', in the pinned program and in every row, IS THE sha256 OF THE DUMP (.gsa) THAT YtamjkchhffhejaaProg.lean LOADS. Nothing in Lean hashes anything: it is a label: what it is worth is what the hold of that sum in a sandbox is worth. -/
noncomputable def Try.pinned : Pinned := { name := "ytamjkchhffhejaa", sum := "d7354549a819bdf8732c1990220dfb8279fa8c3eb67ea5865ef45ba9e1418583", checked := Try.checked }
namespace Rows
def none {H : Type} : Left H := { results := [], args := [] }

/-- 'laws.FnArp': WHATEVER THE INPUT: true; the input reads as it did. -/
def fnArpSpec : ChangeSpec := { name := "fnArp", fn := fun _ => fun
  | [d] => { results := [.lit (.bool true)], args := [d] }
  | _ => none }
def fnArpRow : OpenClaim := { program := "ytamjkchhffhejaa", sum := "d7354549a819bdf8732c1990220dfb8279fa8c3eb67ea5865ef45ba9e1418583", func := "loop.example/g00504/laws.FnArp", spec := "fnArp", apart := false }
def FnArpSaid : Prop := fnArpRow.holds Try.pinned (OpenSpec.ofChange fnArpSpec)

/-- ITS FALSE NEIGHBOUR: 'it returns false'. Refute it at one input. -/
def fnArpWrong : ChangeSpec := { name := "fnArp", fn := fun _ => fun
  | [d] => { results := [.lit (.bool false)], args := [d] }
  | _ => none }
def FnArpWrongFalsely : Prop := fnArpRow.holds Try.pinned (OpenSpec.ofChange fnArpWrong)

/-- 'laws.FnExactArpOk': WHATEVER THE INPUT: true; the input reads as it did. -/
def fnExactArpOkSpec : ChangeSpec := { name := "fnExactArpOk", fn := fun _ => fun
  | [d] => { results := [.lit (.bool true)], args := [d] }
  | _ => none }
def fnExactArpOkRow : OpenClaim := { program := "ytamjkchhffhejaa", sum := "d7354549a819bdf8732c1990220dfb8279fa8c3eb67ea5865ef45ba9e1418583", func := "loop.example/g00504/laws.FnExactArpOk", spec := "fnExactArpOk", apart := false }
def FnExactArpOkSaid : Prop := fnExactArpOkRow.holds Try.pinned (OpenSpec.ofChange fnExactArpOkSpec)

/-- ITS FALSE NEIGHBOUR: 'it returns false'. Refute it at one input. -/
def fnExactArpOkWrong : ChangeSpec := { name := "fnExactArpOk", fn := fun _ => fun
  | [d] => { results := [.lit (.bool false)], args := [d] }
  | _ => none }
def FnExactArpOkWrongFalsely : Prop := fnExactArpOkRow.holds Try.pinned (OpenSpec.ofChange fnExactArpOkWrong)

/-- 'laws.FnExactArpText': WHATEVER THE INPUT: true; the input reads as it did. -/
def fnExactArpTextSpec : ChangeSpec := { name := "fnExactArpText", fn := fun _ => fun
  | [d] => { results := [.lit (.bool true)], args := [d] }
  | _ => none }
def fnExactArpTextRow : OpenClaim := { program := "ytamjkchhffhejaa", sum := "d7354549a819bdf8732c1990220dfb8279fa8c3eb67ea5865ef45ba9e1418583", func := "loop.example/g00504/laws.FnExactArpText", spec := "fnExactArpText", apart := false }
def FnExactArpTextSaid : Prop := fnExactArpTextRow.holds Try.pinned (OpenSpec.ofChange fnExactArpTextSpec)

/-- ITS FALSE NEIGHBOUR: 'it returns false'. Refute it at one input. -/
def fnExactArpTextWrong : ChangeSpec := { name := "fnExactArpText", fn := fun _ => fun
  | [d] => { results := [.lit (.bool false)], args := [d] }
  | _ => none }
def FnExactArpTextWrongFalsely : Prop := fnExactArpTextRow.holds Try.pinned (OpenSpec.ofChange fnExactArpTextWrong)

/-- 'laws.FnExactReadArp': WHATEVER THE INPUT: true; the input reads as it did. -/
def fnExactReadArpSpec : ChangeSpec := { name := "fnExactReadArp", fn := fun _ => fun
  | [d] => { results := [.lit (.bool true)], args := [d] }
  | _ => none }
def fnExactReadArpRow : OpenClaim := { program := "ytamjkchhffhejaa", sum := "d7354549a819bdf8732c1990220dfb8279fa8c3eb67ea5865ef45ba9e1418583", func := "loop.example/g00504/laws.FnExactReadArp", spec := "fnExactReadArp", apart := false }
def FnExactReadArpSaid : Prop := fnExactReadArpRow.holds Try.pinned (OpenSpec.ofChange fnExactReadArpSpec)

/-- ITS FALSE NEIGHBOUR: 'it returns false'. Refute it at one input. -/
def fnExactReadArpWrong : ChangeSpec := { name := "fnExactReadArp", fn := fun _ => fun
  | [d] => { results := [.lit (.bool false)], args := [d] }
  | _ => none }
def FnExactReadArpWrongFalsely : Prop := fnExactReadArpRow.holds Try.pinned (OpenSpec.ofChange fnExactReadArpWrong)

/-- 'laws.FnExactArpReply': WHATEVER THE INPUT: true; the input reads as it did. -/
def fnExactArpReplySpec : ChangeSpec := { name := "fnExactArpReply", fn := fun _ => fun
  | [d1, d2, d3] => { results := [.lit (.bool true)], args := [d1, d2, d3] }
  | _ => none }
def fnExactArpReplyRow : OpenClaim := { program := "ytamjkchhffhejaa", sum := "d7354549a819bdf8732c1990220dfb8279fa8c3eb67ea5865ef45ba9e1418583", func := "loop.example/g00504/laws.FnExactArpReply", spec := "fnExactArpReply", apart := false }
def FnExactArpReplySaid : Prop := fnExactArpReplyRow.holds Try.pinned (OpenSpec.ofChange fnExactArpReplySpec)

/-- ITS FALSE NEIGHBOUR: 'it returns false'. Refute it at one input. -/
def fnExactArpReplyWrong : ChangeSpec := { name := "fnExactArpReply", fn := fun _ => fun
  | [d1, d2, d3] => { results := [.lit (.bool false)], args := [d1, d2, d3] }
  | _ => none }
def FnExactArpReplyWrongFalsely : Prop := fnExactArpReplyRow.holds Try.pinned (OpenSpec.ofChange fnExactArpReplyWrong)

/- THE SECOND FORM. 'bulk': how many values and letters a reading holds, each counted each time it is reached (what is shared counts as often as it is met; a slice's spare places count too). A statement '..UptoSaid' is the law's where the arguments, and the package variables that the reading takes, are together of bulk at most 1048576: NARROWER than '..Said'. Prove '..Said' where nothing that the law and all that it calls make is longer than what came in: it says more and counts as full. Else prove '..UptoSaid'. A law counts once. -/
mutual
def uptoBulk {H : Type} : DataW H → Nat
  | .lit (.string bytes) => bytes.length + 1
  | .lit _ => 1
  | .nil => 1
  | .ptr d => uptoBulk d + 1
  | .slice elems spare => uptoBulkAll elems + uptoBulkAll spare + 1
  | .agg parts => uptoBulkAll parts + 1
  | .iface _ d => uptoBulk d + 1
  | .map entries => uptoBulkEntries entries + 1
  | .held _ => 1
def uptoBulkAll {H : Type} : List (DataW H) → Nat
  | [] => 0
  | d :: r => uptoBulk d + uptoBulkAll r
def uptoBulkEntries {H : Type} : List (Lit × DataW H) → Nat
  | [] => 0
  | x :: r => uptoBulkEntry x + uptoBulkEntries r
def uptoBulkEntry {H : Type} : Lit × DataW H → Nat
  | (.string bytes, d) => bytes.length + uptoBulk d + 1
  | (_, d) => uptoBulk d + 1
 end
def uptoSmall : (H : Type) → List (DataW H) → Bool := fun _ ds => decide (uptoBulkAll ds ≤ 1048576)
def OpenSpec.upto (s : _root_.Go.ChangeSpec) : _root_.Go.OpenSpec := { _root_.Go.OpenSpec.ofChange s with cond := some uptoSmall }

/-- 'laws.FnArp', WHERE WHAT IT READS IS OF BULK AT MOST 1048576: true; the input reads as it did. -/
def fnArpUptoRow : OpenClaim := { program := "ytamjkchhffhejaa", sum := "d7354549a819bdf8732c1990220dfb8279fa8c3eb67ea5865ef45ba9e1418583", func := "loop.example/g00504/laws.FnArp", spec := "fnArp", apart := false, narrowed := true }
def FnArpUptoSaid : Prop := fnArpUptoRow.holds Try.pinned (OpenSpec.upto fnArpSpec)

/-- 'laws.FnExactArpOk', WHERE WHAT IT READS IS OF BULK AT MOST 1048576: true; the input reads as it did. -/
def fnExactArpOkUptoRow : OpenClaim := { program := "ytamjkchhffhejaa", sum := "d7354549a819bdf8732c1990220dfb8279fa8c3eb67ea5865ef45ba9e1418583", func := "loop.example/g00504/laws.FnExactArpOk", spec := "fnExactArpOk", apart := false, narrowed := true }
def FnExactArpOkUptoSaid : Prop := fnExactArpOkUptoRow.holds Try.pinned (OpenSpec.upto fnExactArpOkSpec)

/-- 'laws.FnExactArpText', WHERE WHAT IT READS IS OF BULK AT MOST 1048576: true; the input reads as it did. -/
def fnExactArpTextUptoRow : OpenClaim := { program := "ytamjkchhffhejaa", sum := "d7354549a819bdf8732c1990220dfb8279fa8c3eb67ea5865ef45ba9e1418583", func := "loop.example/g00504/laws.FnExactArpText", spec := "fnExactArpText", apart := false, narrowed := true }
def FnExactArpTextUptoSaid : Prop := fnExactArpTextUptoRow.holds Try.pinned (OpenSpec.upto fnExactArpTextSpec)

/-- 'laws.FnExactReadArp', WHERE WHAT IT READS IS OF BULK AT MOST 1048576: true; the input reads as it did. -/
def fnExactReadArpUptoRow : OpenClaim := { program := "ytamjkchhffhejaa", sum := "d7354549a819bdf8732c1990220dfb8279fa8c3eb67ea5865ef45ba9e1418583", func := "loop.example/g00504/laws.FnExactReadArp", spec := "fnExactReadArp", apart := false, narrowed := true }
def FnExactReadArpUptoSaid : Prop := fnExactReadArpUptoRow.holds Try.pinned (OpenSpec.upto fnExactReadArpSpec)

/-- 'laws.FnExactArpReply', WHERE WHAT IT READS IS OF BULK AT MOST 1048576: true; the input reads as it did. -/
def fnExactArpReplyUptoRow : OpenClaim := { program := "ytamjkchhffhejaa", sum := "d7354549a819bdf8732c1990220dfb8279fa8c3eb67ea5865ef45ba9e1418583", func := "loop.example/g00504/laws.FnExactArpReply", spec := "fnExactArpReply", apart := false, narrowed := true }
def FnExactArpReplyUptoSaid : Prop := fnExactArpReplyUptoRow.holds Try.pinned (OpenSpec.upto fnExactArpReplySpec)

end Rows
end Go.Proofs.Ytamjkchhffhejaa
