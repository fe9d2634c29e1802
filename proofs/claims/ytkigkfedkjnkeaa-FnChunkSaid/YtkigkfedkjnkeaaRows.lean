/-
  No cell of these rows narrows 'for every input' (looked for: loops, veiled, ifaces, maps, wideKeys, modest, calm, conditions, laid).
  DERIVED. THE GIVEN ROWS OF THIS SEAT. 11 by the template 'for every input the law returns true; each argument reads behind the call as it read before'; 0 by the template 'total and deterministic' (their statements: YtkigkfedkjnkeaaTotals.lean).
  GIVEN WITH THE SEED: the statements are not yours to turn. If you find one false, say at which input.
  Laid BY PROGRAM, IN A SANDBOX (cutbox-rows.mjs): the forced cells as the released guide's own fill.sh prints them over the translation 4066fbddd3ead036… (all of the seat's roots in one cut). By AI agents, Wed Nov 11 2026. No macro, syntax, notation, axiom, sorry.
-/
import Derived.Test.YtkigkfedkjnkeaaChecked
import GoSem.Claim
import GoSem.ClaimJoined
import GoSem.ClaimMapViews
import Derived.JoinedTies
import Derived.KernelRfl
namespace Go.Proofs.Ytkigkfedkjnkeaa
/- THE CELL 'sum', in the pinned program and in every row, IS THE sha256 OF THE DUMP (.gsa) THAT YtkigkfedkjnkeaaProg.lean LOADS. Nothing in Lean hashes anything: it is a label: what it is worth is what the hold of that sum in a sandbox is worth. -/
noncomputable def Try.pinned : Pinned := { name := "ytkigkfedkjnkeaa", sum := "4066fbddd3ead03679bb012e842eb7b8bb6caa6a16c823f4eef18a05915b3714", checked := Try.checked }
namespace Rows
def none {H : Type} : Left H := { results := [], args := [] }

/-- 'laws.FnSender': WHATEVER THE INPUT: true; the input reads as it did. -/
def fnSenderSpec : ChangeSpec := { name := "fnSender", fn := fun _ => fun
  | [d] => { results := [.lit (.bool true)], args := [d] }
  | _ => none }
def fnSenderRow : OpenClaim := { program := "ytkigkfedkjnkeaa", sum := "4066fbddd3ead03679bb012e842eb7b8bb6caa6a16c823f4eef18a05915b3714", func := "loop.example/g00504/laws.FnSender", spec := "fnSender", apart := false }
def FnSenderSaid : Prop := fnSenderRow.holds Try.pinned (OpenSpec.ofChange fnSenderSpec)

/-- ITS FALSE NEIGHBOUR: 'it returns false'. Refute it at one input. -/
def fnSenderWrong : ChangeSpec := { name := "fnSender", fn := fun _ => fun
  | [d] => { results := [.lit (.bool false)], args := [d] }
  | _ => none }
def FnSenderWrongFalsely : Prop := fnSenderRow.holds Try.pinned (OpenSpec.ofChange fnSenderWrong)

/-- 'laws.FnChunk': WHATEVER THE INPUT: true; the input reads as it did. -/
def fnChunkSpec : ChangeSpec := { name := "fnChunk", fn := fun _ => fun
  | [d] => { results := [.lit (.bool true)], args := [d] }
  | _ => none }
def fnChunkRow : OpenClaim := { program := "ytkigkfedkjnkeaa", sum := "4066fbddd3ead03679bb012e842eb7b8bb6caa6a16c823f4eef18a05915b3714", func := "loop.example/g00504/laws.FnChunk", spec := "fnChunk", apart := false }
def FnChunkSaid : Prop := fnChunkRow.holds Try.pinned (OpenSpec.ofChange fnChunkSpec)

/-- ITS FALSE NEIGHBOUR: 'it returns false'. Refute it at one input. -/
def fnChunkWrong : ChangeSpec := { name := "fnChunk", fn := fun _ => fun
  | [d] => { results := [.lit (.bool false)], args := [d] }
  | _ => none }
def FnChunkWrongFalsely : Prop := fnChunkRow.holds Try.pinned (OpenSpec.ofChange fnChunkWrong)

/-- 'laws.FnAcked': WHATEVER THE INPUT: true; the input reads as it did. -/
def fnAckedSpec : ChangeSpec := { name := "fnAcked", fn := fun _ => fun
  | [d] => { results := [.lit (.bool true)], args := [d] }
  | _ => none }
def fnAckedRow : OpenClaim := { program := "ytkigkfedkjnkeaa", sum := "4066fbddd3ead03679bb012e842eb7b8bb6caa6a16c823f4eef18a05915b3714", func := "loop.example/g00504/laws.FnAcked", spec := "fnAcked", apart := false }
def FnAckedSaid : Prop := fnAckedRow.holds Try.pinned (OpenSpec.ofChange fnAckedSpec)

/-- ITS FALSE NEIGHBOUR: 'it returns false'. Refute it at one input. -/
def fnAckedWrong : ChangeSpec := { name := "fnAcked", fn := fun _ => fun
  | [d] => { results := [.lit (.bool false)], args := [d] }
  | _ => none }
def FnAckedWrongFalsely : Prop := fnAckedRow.holds Try.pinned (OpenSpec.ofChange fnAckedWrong)

/-- 'laws.FnRewound': WHATEVER THE INPUT: true; the input reads as it did. -/
def fnRewoundSpec : ChangeSpec := { name := "fnRewound", fn := fun _ => fun
  | [d] => { results := [.lit (.bool true)], args := [d] }
  | _ => none }
def fnRewoundRow : OpenClaim := { program := "ytkigkfedkjnkeaa", sum := "4066fbddd3ead03679bb012e842eb7b8bb6caa6a16c823f4eef18a05915b3714", func := "loop.example/g00504/laws.FnRewound", spec := "fnRewound", apart := false }
def FnRewoundSaid : Prop := fnRewoundRow.holds Try.pinned (OpenSpec.ofChange fnRewoundSpec)

/-- ITS FALSE NEIGHBOUR: 'it returns false'. Refute it at one input. -/
def fnRewoundWrong : ChangeSpec := { name := "fnRewound", fn := fun _ => fun
  | [d] => { results := [.lit (.bool false)], args := [d] }
  | _ => none }
def FnRewoundWrongFalsely : Prop := fnRewoundRow.holds Try.pinned (OpenSpec.ofChange fnRewoundWrong)

/-- 'laws.FnExactSenderOk': WHATEVER THE INPUT: true; the input reads as it did. -/
def fnExactSenderOkSpec : ChangeSpec := { name := "fnExactSenderOk", fn := fun _ => fun
  | [d] => { results := [.lit (.bool true)], args := [d] }
  | _ => none }
def fnExactSenderOkRow : OpenClaim := { program := "ytkigkfedkjnkeaa", sum := "4066fbddd3ead03679bb012e842eb7b8bb6caa6a16c823f4eef18a05915b3714", func := "loop.example/g00504/laws.FnExactSenderOk", spec := "fnExactSenderOk", apart := false }
def FnExactSenderOkSaid : Prop := fnExactSenderOkRow.holds Try.pinned (OpenSpec.ofChange fnExactSenderOkSpec)

/-- ITS FALSE NEIGHBOUR: 'it returns false'. Refute it at one input. -/
def fnExactSenderOkWrong : ChangeSpec := { name := "fnExactSenderOk", fn := fun _ => fun
  | [d] => { results := [.lit (.bool false)], args := [d] }
  | _ => none }
def FnExactSenderOkWrongFalsely : Prop := fnExactSenderOkRow.holds Try.pinned (OpenSpec.ofChange fnExactSenderOkWrong)

/-- 'laws.FnExactQueued': WHATEVER THE INPUT: true; the input reads as it did. -/
def fnExactQueuedSpec : ChangeSpec := { name := "fnExactQueued", fn := fun _ => fun
  | [d1, d2] => { results := [.lit (.bool true)], args := [d1, d2] }
  | _ => none }
def fnExactQueuedRow : OpenClaim := { program := "ytkigkfedkjnkeaa", sum := "4066fbddd3ead03679bb012e842eb7b8bb6caa6a16c823f4eef18a05915b3714", func := "loop.example/g00504/laws.FnExactQueued", spec := "fnExactQueued", apart := false }
def FnExactQueuedSaid : Prop := fnExactQueuedRow.holds Try.pinned (OpenSpec.ofChange fnExactQueuedSpec)

/-- ITS FALSE NEIGHBOUR: 'it returns false'. Refute it at one input. -/
def fnExactQueuedWrong : ChangeSpec := { name := "fnExactQueued", fn := fun _ => fun
  | [d1, d2] => { results := [.lit (.bool false)], args := [d1, d2] }
  | _ => none }
def FnExactQueuedWrongFalsely : Prop := fnExactQueuedRow.holds Try.pinned (OpenSpec.ofChange fnExactQueuedWrong)

/-- 'laws.FnExactNextChunk': WHATEVER THE INPUT: true; the input reads as it did. -/
def fnExactNextChunkSpec : ChangeSpec := { name := "fnExactNextChunk", fn := fun _ => fun
  | [d1, d2, d3] => { results := [.lit (.bool true)], args := [d1, d2, d3] }
  | _ => none }
def fnExactNextChunkRow : OpenClaim := { program := "ytkigkfedkjnkeaa", sum := "4066fbddd3ead03679bb012e842eb7b8bb6caa6a16c823f4eef18a05915b3714", func := "loop.example/g00504/laws.FnExactNextChunk", spec := "fnExactNextChunk", apart := false }
def FnExactNextChunkSaid : Prop := fnExactNextChunkRow.holds Try.pinned (OpenSpec.ofChange fnExactNextChunkSpec)

/-- ITS FALSE NEIGHBOUR: 'it returns false'. Refute it at one input. -/
def fnExactNextChunkWrong : ChangeSpec := { name := "fnExactNextChunk", fn := fun _ => fun
  | [d1, d2, d3] => { results := [.lit (.bool false)], args := [d1, d2, d3] }
  | _ => none }
def FnExactNextChunkWrongFalsely : Prop := fnExactNextChunkRow.holds Try.pinned (OpenSpec.ofChange fnExactNextChunkWrong)

/-- 'laws.FnExactSentOff': WHATEVER THE INPUT: true; the input reads as it did. -/
def fnExactSentOffSpec : ChangeSpec := { name := "fnExactSentOff", fn := fun _ => fun
  | [d1, d2] => { results := [.lit (.bool true)], args := [d1, d2] }
  | _ => none }
def fnExactSentOffRow : OpenClaim := { program := "ytkigkfedkjnkeaa", sum := "4066fbddd3ead03679bb012e842eb7b8bb6caa6a16c823f4eef18a05915b3714", func := "loop.example/g00504/laws.FnExactSentOff", spec := "fnExactSentOff", apart := false }
def FnExactSentOffSaid : Prop := fnExactSentOffRow.holds Try.pinned (OpenSpec.ofChange fnExactSentOffSpec)

/-- ITS FALSE NEIGHBOUR: 'it returns false'. Refute it at one input. -/
def fnExactSentOffWrong : ChangeSpec := { name := "fnExactSentOff", fn := fun _ => fun
  | [d1, d2] => { results := [.lit (.bool false)], args := [d1, d2] }
  | _ => none }
def FnExactSentOffWrongFalsely : Prop := fnExactSentOffRow.holds Try.pinned (OpenSpec.ofChange fnExactSentOffWrong)

/-- 'laws.FnExactAcked': WHATEVER THE INPUT: true; the input reads as it did. -/
def fnExactAckedSpec : ChangeSpec := { name := "fnExactAcked", fn := fun _ => fun
  | [d1, d2] => { results := [.lit (.bool true)], args := [d1, d2] }
  | _ => none }
def fnExactAckedRow : OpenClaim := { program := "ytkigkfedkjnkeaa", sum := "4066fbddd3ead03679bb012e842eb7b8bb6caa6a16c823f4eef18a05915b3714", func := "loop.example/g00504/laws.FnExactAcked", spec := "fnExactAcked", apart := false }
def FnExactAckedSaid : Prop := fnExactAckedRow.holds Try.pinned (OpenSpec.ofChange fnExactAckedSpec)

/-- ITS FALSE NEIGHBOUR: 'it returns false'. Refute it at one input. -/
def fnExactAckedWrong : ChangeSpec := { name := "fnExactAcked", fn := fun _ => fun
  | [d1, d2] => { results := [.lit (.bool false)], args := [d1, d2] }
  | _ => none }
def FnExactAckedWrongFalsely : Prop := fnExactAckedRow.holds Try.pinned (OpenSpec.ofChange fnExactAckedWrong)

/-- 'laws.FnExactRewound': WHATEVER THE INPUT: true; the input reads as it did. -/
def fnExactRewoundSpec : ChangeSpec := { name := "fnExactRewound", fn := fun _ => fun
  | [d] => { results := [.lit (.bool true)], args := [d] }
  | _ => none }
def fnExactRewoundRow : OpenClaim := { program := "ytkigkfedkjnkeaa", sum := "4066fbddd3ead03679bb012e842eb7b8bb6caa6a16c823f4eef18a05915b3714", func := "loop.example/g00504/laws.FnExactRewound", spec := "fnExactRewound", apart := false }
def FnExactRewoundSaid : Prop := fnExactRewoundRow.holds Try.pinned (OpenSpec.ofChange fnExactRewoundSpec)

/-- ITS FALSE NEIGHBOUR: 'it returns false'. Refute it at one input. -/
def fnExactRewoundWrong : ChangeSpec := { name := "fnExactRewound", fn := fun _ => fun
  | [d] => { results := [.lit (.bool false)], args := [d] }
  | _ => none }
def FnExactRewoundWrongFalsely : Prop := fnExactRewoundRow.holds Try.pinned (OpenSpec.ofChange fnExactRewoundWrong)

/-- 'laws.FnExactNextOf': WHATEVER THE INPUT: true; the input reads as it did. -/
def fnExactNextOfSpec : ChangeSpec := { name := "fnExactNextOf", fn := fun _ => fun
  | [d] => { results := [.lit (.bool true)], args := [d] }
  | _ => none }
def fnExactNextOfRow : OpenClaim := { program := "ytkigkfedkjnkeaa", sum := "4066fbddd3ead03679bb012e842eb7b8bb6caa6a16c823f4eef18a05915b3714", func := "loop.example/g00504/laws.FnExactNextOf", spec := "fnExactNextOf", apart := false }
def FnExactNextOfSaid : Prop := fnExactNextOfRow.holds Try.pinned (OpenSpec.ofChange fnExactNextOfSpec)

/-- ITS FALSE NEIGHBOUR: 'it returns false'. Refute it at one input. -/
def fnExactNextOfWrong : ChangeSpec := { name := "fnExactNextOf", fn := fun _ => fun
  | [d] => { results := [.lit (.bool false)], args := [d] }
  | _ => none }
def FnExactNextOfWrongFalsely : Prop := fnExactNextOfRow.holds Try.pinned (OpenSpec.ofChange fnExactNextOfWrong)

/- THE SECOND FORM. 'bulk': how many values and letters a reading holds, each counted each time it is reached (what is shared counts as often as it is met; a slice's spare places count too). A statement '..UptoSaid' is the law's where the arguments, and the package variables that the reading takes, are together of bulk at most 1048576: NARROWER than '..Said'. Prove '..Said' where nothing that the law and all that it calls make is longer than what came in: it says more and counts as full. Else prove '..UptoSaid'. A law counts once. -/
mutual
def uptoBulk {H : Type} : DataW H → Nat
  | .lit (.string bytes) => bytes.length + 1
  | .lit _ => 1
  | .nil => 1
  | .ptr d => uptoBulk d + 1
  | .slice elems spare => uptoBulkAll elems + uptoBulkAll spare + 1
  | .agg parts => uptoBulkAll parts + 1
  | .iface _ d => uptoBulk d + 1
  | .map entries => uptoBulkEntries entries + 1
  | .held _ => 1
def uptoBulkAll {H : Type} : List (DataW H) → Nat
  | [] => 0
  | d :: r => uptoBulk d + uptoBulkAll r
def uptoBulkEntries {H : Type} : List (Lit × DataW H) → Nat
  | [] => 0
  | x :: r => uptoBulkEntry x + uptoBulkEntries r
def uptoBulkEntry {H : Type} : Lit × DataW H → Nat
  | (.string bytes, d) => bytes.length + uptoBulk d + 1
  | (_, d) => uptoBulk d + 1
 end
def uptoSmall : (H : Type) → List (DataW H) → Bool := fun _ ds => decide (uptoBulkAll ds ≤ 1048576)
def OpenSpec.upto (s : _root_.Go.ChangeSpec) : _root_.Go.OpenSpec := { _root_.Go.OpenSpec.ofChange s with cond := some uptoSmall }

/-- 'laws.FnSender', WHERE WHAT IT READS IS OF BULK AT MOST 1048576: true; the input reads as it did. -/
def fnSenderUptoRow : OpenClaim := { program := "ytkigkfedkjnkeaa", sum := "4066fbddd3ead03679bb012e842eb7b8bb6caa6a16c823f4eef18a05915b3714", func := "loop.example/g00504/laws.FnSender", spec := "fnSender", apart := false, narrowed := true }
def FnSenderUptoSaid : Prop := fnSenderUptoRow.holds Try.pinned (OpenSpec.upto fnSenderSpec)

/-- 'laws.FnChunk', WHERE WHAT IT READS IS OF BULK AT MOST 1048576: true; the input reads as it did. -/
def fnChunkUptoRow : OpenClaim := { program := "ytkigkfedkjnkeaa", sum := "4066fbddd3ead03679bb012e842eb7b8bb6caa6a16c823f4eef18a05915b3714", func := "loop.example/g00504/laws.FnChunk", spec := "fnChunk", apart := false, narrowed := true }
def FnChunkUptoSaid : Prop := fnChunkUptoRow.holds Try.pinned (OpenSpec.upto fnChunkSpec)

/-- 'laws.FnAcked', WHERE WHAT IT READS IS OF BULK AT MOST 1048576: true; the input reads as it did. -/
def fnAckedUptoRow : OpenClaim := { program := "ytkigkfedkjnkeaa", sum := "4066fbddd3ead03679bb012e842eb7b8bb6caa6a16c823f4eef18a05915b3714", func := "loop.example/g00504/laws.FnAcked", spec := "fnAcked", apart := false, narrowed := true }
def FnAckedUptoSaid : Prop := fnAckedUptoRow.holds Try.pinned (OpenSpec.upto fnAckedSpec)

/-- 'laws.FnRewound', WHERE WHAT IT READS IS OF BULK AT MOST 1048576: true; the input reads as it did. -/
def fnRewoundUptoRow : OpenClaim := { program := "ytkigkfedkjnkeaa", sum := "4066fbddd3ead03679bb012e842eb7b8bb6caa6a16c823f4eef18a05915b3714", func := "loop.example/g00504/laws.FnRewound", spec := "fnRewound", apart := false, narrowed := true }
def FnRewoundUptoSaid : Prop := fnRewoundUptoRow.holds Try.pinned (OpenSpec.upto fnRewoundSpec)

/-- 'laws.FnExactSenderOk', WHERE WHAT IT READS IS OF BULK AT MOST 1048576: true; the input reads as it did. -/
def fnExactSenderOkUptoRow : OpenClaim := { program := "ytkigkfedkjnkeaa", sum := "4066fbddd3ead03679bb012e842eb7b8bb6caa6a16c823f4eef18a05915b3714", func := "loop.example/g00504/laws.FnExactSenderOk", spec := "fnExactSenderOk", apart := false, narrowed := true }
def FnExactSenderOkUptoSaid : Prop := fnExactSenderOkUptoRow.holds Try.pinned (OpenSpec.upto fnExactSenderOkSpec)

/-- 'laws.FnExactQueued', WHERE WHAT IT READS IS OF BULK AT MOST 1048576: true; the input reads as it did. -/
def fnExactQueuedUptoRow : OpenClaim := { program := "ytkigkfedkjnkeaa", sum := "4066fbddd3ead03679bb012e842eb7b8bb6caa6a16c823f4eef18a05915b3714", func := "loop.example/g00504/laws.FnExactQueued", spec := "fnExactQueued", apart := false, narrowed := true }
def FnExactQueuedUptoSaid : Prop := fnExactQueuedUptoRow.holds Try.pinned (OpenSpec.upto fnExactQueuedSpec)

/-- 'laws.FnExactNextChunk', WHERE WHAT IT READS IS OF BULK AT MOST 1048576: true; the input reads as it did. -/
def fnExactNextChunkUptoRow : OpenClaim := { program := "ytkigkfedkjnkeaa", sum := "4066fbddd3ead03679bb012e842eb7b8bb6caa6a16c823f4eef18a05915b3714", func := "loop.example/g00504/laws.FnExactNextChunk", spec := "fnExactNextChunk", apart := false, narrowed := true }
def FnExactNextChunkUptoSaid : Prop := fnExactNextChunkUptoRow.holds Try.pinned (OpenSpec.upto fnExactNextChunkSpec)

/-- 'laws.FnExactSentOff', WHERE WHAT IT READS IS OF BULK AT MOST 1048576: true; the input reads as it did. -/
def fnExactSentOffUptoRow : OpenClaim := { program := "ytkigkfedkjnkeaa", sum := "4066fbddd3ead03679bb012e842eb7b8bb6caa6a16c823f4eef18a05915b3714", func := "loop.example/g00504/laws.FnExactSentOff", spec := "fnExactSentOff", apart := false, narrowed := true }
def FnExactSentOffUptoSaid : Prop := fnExactSentOffUptoRow.holds Try.pinned (OpenSpec.upto fnExactSentOffSpec)

/-- 'laws.FnExactAcked', WHERE WHAT IT READS IS OF BULK AT MOST 1048576: true; the input reads as it did. -/
def fnExactAckedUptoRow : OpenClaim := { program := "ytkigkfedkjnkeaa", sum := "4066fbddd3ead03679bb012e842eb7b8bb6caa6a16c823f4eef18a05915b3714", func := "loop.example/g00504/laws.FnExactAcked", spec := "fnExactAcked", apart := false, narrowed := true }
def FnExactAckedUptoSaid : Prop := fnExactAckedUptoRow.holds Try.pinned (OpenSpec.upto fnExactAckedSpec)

/-- 'laws.FnExactRewound', WHERE WHAT IT READS IS OF BULK AT MOST 1048576: true; the input reads as it did. -/
def fnExactRewoundUptoRow : OpenClaim := { program := "ytkigkfedkjnkeaa", sum := "4066fbddd3ead03679bb012e842eb7b8bb6caa6a16c823f4eef18a05915b3714", func := "loop.example/g00504/laws.FnExactRewound", spec := "fnExactRewound", apart := false, narrowed := true }
def FnExactRewoundUptoSaid : Prop := fnExactRewoundUptoRow.holds Try.pinned (OpenSpec.upto fnExactRewoundSpec)

/-- 'laws.FnExactNextOf', WHERE WHAT IT READS IS OF BULK AT MOST 1048576: true; the input reads as it did. -/
def fnExactNextOfUptoRow : OpenClaim := { program := "ytkigkfedkjnkeaa", sum := "4066fbddd3ead03679bb012e842eb7b8bb6caa6a16c823f4eef18a05915b3714", func := "loop.example/g00504/laws.FnExactNextOf", spec := "fnExactNextOf", apart := false, narrowed := true }
def FnExactNextOfUptoSaid : Prop := fnExactNextOfUptoRow.holds Try.pinned (OpenSpec.upto fnExactNextOfSpec)

end Rows
end Go.Proofs.Ytkigkfedkjnkeaa
