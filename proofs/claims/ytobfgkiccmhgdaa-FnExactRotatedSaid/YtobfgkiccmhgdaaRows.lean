/-
  No cell of these rows narrows 'for every input' (looked for: loops, veiled, ifaces, maps, wideKeys, modest, calm, conditions, laid).
  DERIVED. THE GIVEN ROWS OF THIS SEAT. 9 by the template 'for every input the law returns true; each argument reads behind the call as it read before'; 0 by the template 'total and deterministic' (their statements: YtobfgkiccmhgdaaTotals.lean).
  GIVEN WITH THE SEED: the statements are not yours to turn. If you find one false, say at which input.
  Laid BY PROGRAM, IN A SANDBOX (cutbox-rows.mjs): the forced cells as the released guide's own fill.sh prints them over the translation 2a9e8bb147acb394… (all of the seat's roots in one cut). By AI agents, Wed Nov 11 2026. No macro, syntax, notation, axiom, sorry.
-/
import Derived.Test.YtobfgkiccmhgdaaChecked
import GoSem.Claim
import GoSem.ClaimJoined
import GoSem.ClaimMapViews
import Derived.JoinedTies
import Derived.KernelRfl
namespace Go.Proofs.Ytobfgkiccmhgdaa
/- THE CELL 'sum', in the pinned program and in every row, IS THE sha256 OF THE DUMP (.gsa) THAT YtobfgkiccmhgdaaProg.lean LOADS. Nothing in Lean hashes anything: it is a label: what it is worth is what the hold of that sum in a sandbox is worth. -/
noncomputable def Try.pinned : Pinned := { name := "ytobfgkiccmhgdaa", sum := "2a9e8bb147acb394ca3616d9e06a650353a5e46ae784e5abf2cac7196aed4418", checked := Try.checked }
namespace Rows
def none {H : Type} : Left H := { results := [], args := [] }

/-- 'laws.FnCookie': WHATEVER THE INPUT: true; the input reads as it did. -/
def fnCookieSpec : ChangeSpec := { name := "fnCookie", fn := fun _ => fun
  | [d] => { results := [.lit (.bool true)], args := [d] }
  | _ => none }
def fnCookieRow : OpenClaim := { program := "ytobfgkiccmhgdaa", sum := "2a9e8bb147acb394ca3616d9e06a650353a5e46ae784e5abf2cac7196aed4418", func := "loop.example/g00504/laws.FnCookie", spec := "fnCookie", unfollowed := true, recurses := true, apart := false }
def FnCookieSaid : Prop := fnCookieRow.holds Try.pinned (OpenSpec.ofChange fnCookieSpec)

/-- ITS FALSE NEIGHBOUR: 'it returns false'. Refute it at one input. -/
def fnCookieWrong : ChangeSpec := { name := "fnCookie", fn := fun _ => fun
  | [d] => { results := [.lit (.bool false)], args := [d] }
  | _ => none }
def FnCookieWrongFalsely : Prop := fnCookieRow.holds Try.pinned (OpenSpec.ofChange fnCookieWrong)

/-- 'laws.FnCookieParts': WHATEVER THE INPUT: true; the input reads as it did. -/
def fnCookiePartsSpec : ChangeSpec := { name := "fnCookieParts", fn := fun _ => fun
  | [d] => { results := [.lit (.bool true)], args := [d] }
  | _ => none }
def fnCookiePartsRow : OpenClaim := { program := "ytobfgkiccmhgdaa", sum := "2a9e8bb147acb394ca3616d9e06a650353a5e46ae784e5abf2cac7196aed4418", func := "loop.example/g00504/laws.FnCookieParts", spec := "fnCookieParts", apart := false }
def FnCookiePartsSaid : Prop := fnCookiePartsRow.holds Try.pinned (OpenSpec.ofChange fnCookiePartsSpec)

/-- ITS FALSE NEIGHBOUR: 'it returns false'. Refute it at one input. -/
def fnCookiePartsWrong : ChangeSpec := { name := "fnCookieParts", fn := fun _ => fun
  | [d] => { results := [.lit (.bool false)], args := [d] }
  | _ => none }
def FnCookiePartsWrongFalsely : Prop := fnCookiePartsRow.holds Try.pinned (OpenSpec.ofChange fnCookiePartsWrong)

/-- 'laws.FnExactKeysOk': WHATEVER THE INPUT: true; the input reads as it did. -/
def fnExactKeysOkSpec : ChangeSpec := { name := "fnExactKeysOk", fn := fun _ => fun
  | [d] => { results := [.lit (.bool true)], args := [d] }
  | _ => none }
def fnExactKeysOkRow : OpenClaim := { program := "ytobfgkiccmhgdaa", sum := "2a9e8bb147acb394ca3616d9e06a650353a5e46ae784e5abf2cac7196aed4418", func := "loop.example/g00504/laws.FnExactKeysOk", spec := "fnExactKeysOk", unfollowed := true, recurses := true, apart := false }
def FnExactKeysOkSaid : Prop := fnExactKeysOkRow.holds Try.pinned (OpenSpec.ofChange fnExactKeysOkSpec)

/-- ITS FALSE NEIGHBOUR: 'it returns false'. Refute it at one input. -/
def fnExactKeysOkWrong : ChangeSpec := { name := "fnExactKeysOk", fn := fun _ => fun
  | [d] => { results := [.lit (.bool false)], args := [d] }
  | _ => none }
def FnExactKeysOkWrongFalsely : Prop := fnExactKeysOkRow.holds Try.pinned (OpenSpec.ofChange fnExactKeysOkWrong)

/-- 'laws.FnExactSecretOf': WHATEVER THE INPUT: true; the input reads as it did. -/
def fnExactSecretOfSpec : ChangeSpec := { name := "fnExactSecretOf", fn := fun _ => fun
  | [d1, d2] => { results := [.lit (.bool true)], args := [d1, d2] }
  | _ => none }
def fnExactSecretOfRow : OpenClaim := { program := "ytobfgkiccmhgdaa", sum := "2a9e8bb147acb394ca3616d9e06a650353a5e46ae784e5abf2cac7196aed4418", func := "loop.example/g00504/laws.FnExactSecretOf", spec := "fnExactSecretOf", apart := false }
def FnExactSecretOfSaid : Prop := fnExactSecretOfRow.holds Try.pinned (OpenSpec.ofChange fnExactSecretOfSpec)

/-- ITS FALSE NEIGHBOUR: 'it returns false'. Refute it at one input. -/
def fnExactSecretOfWrong : ChangeSpec := { name := "fnExactSecretOf", fn := fun _ => fun
  | [d1, d2] => { results := [.lit (.bool false)], args := [d1, d2] }
  | _ => none }
def FnExactSecretOfWrongFalsely : Prop := fnExactSecretOfRow.holds Try.pinned (OpenSpec.ofChange fnExactSecretOfWrong)

/-- 'laws.FnExactCookieOf': WHATEVER THE INPUT: true; the input reads as it did. -/
def fnExactCookieOfSpec : ChangeSpec := { name := "fnExactCookieOf", fn := fun _ => fun
  | [d1, d2, d3, d4, d5] => { results := [.lit (.bool true)], args := [d1, d2, d3, d4, d5] }
  | _ => none }
def fnExactCookieOfRow : OpenClaim := { program := "ytobfgkiccmhgdaa", sum := "2a9e8bb147acb394ca3616d9e06a650353a5e46ae784e5abf2cac7196aed4418", func := "loop.example/g00504/laws.FnExactCookieOf", spec := "fnExactCookieOf", unfollowed := true, recurses := true, apart := false }
def FnExactCookieOfSaid : Prop := fnExactCookieOfRow.holds Try.pinned (OpenSpec.ofChange fnExactCookieOfSpec)

/-- ITS FALSE NEIGHBOUR: 'it returns false'. Refute it at one input. -/
def fnExactCookieOfWrong : ChangeSpec := { name := "fnExactCookieOf", fn := fun _ => fun
  | [d1, d2, d3, d4, d5] => { results := [.lit (.bool false)], args := [d1, d2, d3, d4, d5] }
  | _ => none }
def FnExactCookieOfWrongFalsely : Prop := fnExactCookieOfRow.holds Try.pinned (OpenSpec.ofChange fnExactCookieOfWrong)

/-- 'laws.FnExactCookieParts': WHATEVER THE INPUT: true; the input reads as it did. -/
def fnExactCookiePartsSpec : ChangeSpec := { name := "fnExactCookieParts", fn := fun _ => fun
  | [d] => { results := [.lit (.bool true)], args := [d] }
  | _ => none }
def fnExactCookiePartsRow : OpenClaim := { program := "ytobfgkiccmhgdaa", sum := "2a9e8bb147acb394ca3616d9e06a650353a5e46ae784e5abf2cac7196aed4418", func := "loop.example/g00504/laws.FnExactCookieParts", spec := "fnExactCookieParts", apart := false }
def FnExactCookiePartsSaid : Prop := fnExactCookiePartsRow.holds Try.pinned (OpenSpec.ofChange fnExactCookiePartsSpec)

/-- ITS FALSE NEIGHBOUR: 'it returns false'. Refute it at one input. -/
def fnExactCookiePartsWrong : ChangeSpec := { name := "fnExactCookieParts", fn := fun _ => fun
  | [d] => { results := [.lit (.bool false)], args := [d] }
  | _ => none }
def FnExactCookiePartsWrongFalsely : Prop := fnExactCookiePartsRow.holds Try.pinned (OpenSpec.ofChange fnExactCookiePartsWrong)

/-- 'laws.FnExactCheckCookie': WHATEVER THE INPUT: true; the input reads as it did. -/
def fnExactCheckCookieSpec : ChangeSpec := { name := "fnExactCheckCookie", fn := fun _ => fun
  | [d1, d2, d3, d4] => { results := [.lit (.bool true)], args := [d1, d2, d3, d4] }
  | _ => none }
def fnExactCheckCookieRow : OpenClaim := { program := "ytobfgkiccmhgdaa", sum := "2a9e8bb147acb394ca3616d9e06a650353a5e46ae784e5abf2cac7196aed4418", func := "loop.example/g00504/laws.FnExactCheckCookie", spec := "fnExactCheckCookie", unfollowed := true, recurses := true, apart := false }
def FnExactCheckCookieSaid : Prop := fnExactCheckCookieRow.holds Try.pinned (OpenSpec.ofChange fnExactCheckCookieSpec)

/-- ITS FALSE NEIGHBOUR: 'it returns false'. Refute it at one input. -/
def fnExactCheckCookieWrong : ChangeSpec := { name := "fnExactCheckCookie", fn := fun _ => fun
  | [d1, d2, d3, d4] => { results := [.lit (.bool false)], args := [d1, d2, d3, d4] }
  | _ => none }
def FnExactCheckCookieWrongFalsely : Prop := fnExactCheckCookieRow.holds Try.pinned (OpenSpec.ofChange fnExactCheckCookieWrong)

/-- 'laws.FnExactRotated': WHATEVER THE INPUT: true; the input reads as it did. -/
def fnExactRotatedSpec : ChangeSpec := { name := "fnExactRotated", fn := fun _ => fun
  | [d1, d2] => { results := [.lit (.bool true)], args := [d1, d2] }
  | _ => none }
def fnExactRotatedRow : OpenClaim := { program := "ytobfgkiccmhgdaa", sum := "2a9e8bb147acb394ca3616d9e06a650353a5e46ae784e5abf2cac7196aed4418", func := "loop.example/g00504/laws.FnExactRotated", spec := "fnExactRotated", unfollowed := true, recurses := true, apart := false }
def FnExactRotatedSaid : Prop := fnExactRotatedRow.holds Try.pinned (OpenSpec.ofChange fnExactRotatedSpec)

/-- ITS FALSE NEIGHBOUR: 'it returns false'. Refute it at one input. -/
def fnExactRotatedWrong : ChangeSpec := { name := "fnExactRotated", fn := fun _ => fun
  | [d1, d2] => { results := [.lit (.bool false)], args := [d1, d2] }
  | _ => none }
def FnExactRotatedWrongFalsely : Prop := fnExactRotatedRow.holds Try.pinned (OpenSpec.ofChange fnExactRotatedWrong)

/-- 'laws.FnExactSameKeys': WHATEVER THE INPUT: true; the input reads as it did. -/
def fnExactSameKeysSpec : ChangeSpec := { name := "fnExactSameKeys", fn := fun _ => fun
  | [d1, d2] => { results := [.lit (.bool true)], args := [d1, d2] }
  | _ => none }
def fnExactSameKeysRow : OpenClaim := { program := "ytobfgkiccmhgdaa", sum := "2a9e8bb147acb394ca3616d9e06a650353a5e46ae784e5abf2cac7196aed4418", func := "loop.example/g00504/laws.FnExactSameKeys", spec := "fnExactSameKeys", apart := false }
def FnExactSameKeysSaid : Prop := fnExactSameKeysRow.holds Try.pinned (OpenSpec.ofChange fnExactSameKeysSpec)

/-- ITS FALSE NEIGHBOUR: 'it returns false'. Refute it at one input. -/
def fnExactSameKeysWrong : ChangeSpec := { name := "fnExactSameKeys", fn := fun _ => fun
  | [d1, d2] => { results := [.lit (.bool false)], args := [d1, d2] }
  | _ => none }
def FnExactSameKeysWrongFalsely : Prop := fnExactSameKeysRow.holds Try.pinned (OpenSpec.ofChange fnExactSameKeysWrong)

/- THE SECOND FORM. 'bulk': how many values and letters a reading holds, each counted each time it is reached (what is shared counts as often as it is met; a slice's spare places count too). A statement '..UptoSaid' is the law's where the arguments, and the package variables that the reading takes, are together of bulk at most 1048576: NARROWER than '..Said'. Prove '..Said' where nothing that the law and all that it calls make is longer than what came in: it says more and counts as full. Else prove '..UptoSaid'. A law counts once. -/
mutual
def uptoBulk {H : Type} : DataW H → Nat
  | .lit (.string bytes) => bytes.length + 1
  | .lit _ => 1
  | .nil => 1
  | .ptr d => uptoBulk d + 1
  | .slice elems spare => uptoBulkAll elems + uptoBulkAll spare + 1
  | .agg parts => uptoBulkAll parts + 1
  | .iface _ d => uptoBulk d + 1
  | .map entries => uptoBulkEntries entries + 1
  | .held _ => 1
def uptoBulkAll {H : Type} : List (DataW H) → Nat
  | [] => 0
  | d :: r => uptoBulk d + uptoBulkAll r
def uptoBulkEntries {H : Type} : List (Lit × DataW H) → Nat
  | [] => 0
  | x :: r => uptoBulkEntry x + uptoBulkEntries r
def uptoBulkEntry {H : Type} : Lit × DataW H → Nat
  | (.string bytes, d) => bytes.length + uptoBulk d + 1
  | (_, d) => uptoBulk d + 1
 end
def uptoSmall : (H : Type) → List (DataW H) → Bool := fun _ ds => decide (uptoBulkAll ds ≤ 1048576)
def OpenSpec.upto (s : _root_.Go.ChangeSpec) : _root_.Go.OpenSpec := { _root_.Go.OpenSpec.ofChange s with cond := some uptoSmall }

/-- 'laws.FnCookie', WHERE WHAT IT READS IS OF BULK AT MOST 1048576: true; the input reads as it did. -/
def fnCookieUptoRow : OpenClaim := { program := "ytobfgkiccmhgdaa", sum := "2a9e8bb147acb394ca3616d9e06a650353a5e46ae784e5abf2cac7196aed4418", func := "loop.example/g00504/laws.FnCookie", spec := "fnCookie", unfollowed := true, recurses := true, apart := false, narrowed := true }
def FnCookieUptoSaid : Prop := fnCookieUptoRow.holds Try.pinned (OpenSpec.upto fnCookieSpec)

/-- 'laws.FnCookieParts', WHERE WHAT IT READS IS OF BULK AT MOST 1048576: true; the input reads as it did. -/
def fnCookiePartsUptoRow : OpenClaim := { program := "ytobfgkiccmhgdaa", sum := "2a9e8bb147acb394ca3616d9e06a650353a5e46ae784e5abf2cac7196aed4418", func := "loop.example/g00504/laws.FnCookieParts", spec := "fnCookieParts", apart := false, narrowed := true }
def FnCookiePartsUptoSaid : Prop := fnCookiePartsUptoRow.holds Try.pinned (OpenSpec.upto fnCookiePartsSpec)

/-- 'laws.FnExactKeysOk', WHERE WHAT IT READS IS OF BULK AT MOST 1048576: true; the input reads as it did. -/
def fnExactKeysOkUptoRow : OpenClaim := { program := "ytobfgkiccmhgdaa", sum := "2a9e8bb147acb394ca3616d9e06a650353a5e46ae784e5abf2cac7196aed4418", func := "loop.example/g00504/laws.FnExactKeysOk", spec := "fnExactKeysOk", unfollowed := true, recurses := true, apart := false, narrowed := true }
def FnExactKeysOkUptoSaid : Prop := fnExactKeysOkUptoRow.holds Try.pinned (OpenSpec.upto fnExactKeysOkSpec)

/-- 'laws.FnExactSecretOf', WHERE WHAT IT READS IS OF BULK AT MOST 1048576: true; the input reads as it did. -/
def fnExactSecretOfUptoRow : OpenClaim := { program := "ytobfgkiccmhgdaa", sum := "2a9e8bb147acb394ca3616d9e06a650353a5e46ae784e5abf2cac7196aed4418", func := "loop.example/g00504/laws.FnExactSecretOf", spec := "fnExactSecretOf", apart := false, narrowed := true }
def FnExactSecretOfUptoSaid : Prop := fnExactSecretOfUptoRow.holds Try.pinned (OpenSpec.upto fnExactSecretOfSpec)

/-- 'laws.FnExactCookieOf', WHERE WHAT IT READS IS OF BULK AT MOST 1048576: true; the input reads as it did. -/
def fnExactCookieOfUptoRow : OpenClaim := { program := "ytobfgkiccmhgdaa", sum := "2a9e8bb147acb394ca3616d9e06a650353a5e46ae784e5abf2cac7196aed4418", func := "loop.example/g00504/laws.FnExactCookieOf", spec := "fnExactCookieOf", unfollowed := true, recurses := true, apart := false, narrowed := true }
def FnExactCookieOfUptoSaid : Prop := fnExactCookieOfUptoRow.holds Try.pinned (OpenSpec.upto fnExactCookieOfSpec)

/-- 'laws.FnExactCookieParts', WHERE WHAT IT READS IS OF BULK AT MOST 1048576: true; the input reads as it did. -/
def fnExactCookiePartsUptoRow : OpenClaim := { program := "ytobfgkiccmhgdaa", sum := "2a9e8bb147acb394ca3616d9e06a650353a5e46ae784e5abf2cac7196aed4418", func := "loop.example/g00504/laws.FnExactCookieParts", spec := "fnExactCookieParts", apart := false, narrowed := true }
def FnExactCookiePartsUptoSaid : Prop := fnExactCookiePartsUptoRow.holds Try.pinned (OpenSpec.upto fnExactCookiePartsSpec)

/-- 'laws.FnExactCheckCookie', WHERE WHAT IT READS IS OF BULK AT MOST 1048576: true; the input reads as it did. -/
def fnExactCheckCookieUptoRow : OpenClaim := { program := "ytobfgkiccmhgdaa", sum := "2a9e8bb147acb394ca3616d9e06a650353a5e46ae784e5abf2cac7196aed4418", func := "loop.example/g00504/laws.FnExactCheckCookie", spec := "fnExactCheckCookie", unfollowed := true, recurses := true, apart := false, narrowed := true }
def FnExactCheckCookieUptoSaid : Prop := fnExactCheckCookieUptoRow.holds Try.pinned (OpenSpec.upto fnExactCheckCookieSpec)

/-- 'laws.FnExactRotated', WHERE WHAT IT READS IS OF BULK AT MOST 1048576: true; the input reads as it did. -/
def fnExactRotatedUptoRow : OpenClaim := { program := "ytobfgkiccmhgdaa", sum := "2a9e8bb147acb394ca3616d9e06a650353a5e46ae784e5abf2cac7196aed4418", func := "loop.example/g00504/laws.FnExactRotated", spec := "fnExactRotated", unfollowed := true, recurses := true, apart := false, narrowed := true }
def FnExactRotatedUptoSaid : Prop := fnExactRotatedUptoRow.holds Try.pinned (OpenSpec.upto fnExactRotatedSpec)

/-- 'laws.FnExactSameKeys', WHERE WHAT IT READS IS OF BULK AT MOST 1048576: true; the input reads as it did. -/
def fnExactSameKeysUptoRow : OpenClaim := { program := "ytobfgkiccmhgdaa", sum := "2a9e8bb147acb394ca3616d9e06a650353a5e46ae784e5abf2cac7196aed4418", func := "loop.example/g00504/laws.FnExactSameKeys", spec := "fnExactSameKeys", apart := false, narrowed := true }
def FnExactSameKeysUptoSaid : Prop := fnExactSameKeysUptoRow.holds Try.pinned (OpenSpec.upto fnExactSameKeysSpec)

end Rows
end Go.Proofs.Ytobfgkiccmhgdaa
