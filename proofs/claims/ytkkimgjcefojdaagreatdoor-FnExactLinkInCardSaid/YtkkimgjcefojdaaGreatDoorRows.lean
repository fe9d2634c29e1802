/-
  NARROWER THAN 'FOR EVERY INPUT', by the rows' own cells (each row's printed sentence says how): FnLink: ifaces, laid · FnLinkBack: ifaces, laid · FnExactLinkIn: ifaces, laid.
  DERIVED. THE GIVEN ROWS OF THIS SEAT. 3 by the template 'for every input the law returns true; each argument reads behind the call as it read before'; 0 by the template 'total and deterministic' (their statements: YtkkimgjcefojdaaGreatDoorTotals.lean).
  GIVEN WITH THE SEED: the statements are not yours to turn. If you find one false, say at which input.
  Laid BY PROGRAM, IN A SANDBOX (cutbox-rows.mjs): the forced cells as the released guide's own fill.sh prints them over the translation d93d5c13aae2311f… (all of the seat's roots in one cut). By AI agents, Wed Nov 11 2026. No macro, syntax, notation, axiom, sorry.
-/
import Derived.Test.YtkkimgjcefojdaaGreatDoorChecked
import GoSem.Claim
import GoSem.ClaimJoined
import GoSem.ClaimMapViews
import Derived.JoinedTies
import Derived.KernelRfl
namespace Go.Proofs.YtkkimgjcefojdaaGreatDoor
/- THE CELL 'sum', in the pinned program and in every row, IS THE sha256 OF THE DUMP (.gsa) THAT YtkkimgjcefojdaaGreatDoorProg.lean LOADS. Nothing in Lean hashes anything: it is a label: what it is worth is what the hold of that sum in a sandbox is worth. -/
noncomputable def Tryz.pinned : Pinned := { name := "ytkkimgjcefojdaagreatdoor", sum := "d93d5c13aae2311f61955f41c1b3d650ff58730b9ae40f17bc859ea1480f131b", checked := Tryz.checked }
namespace Rows
def none {H : Type} : Left H := { results := [], args := [] }

/- WHAT THE LISTED PACKAGE-LEVEL VARIABLES READ AS WHEN THE CALL BEGINS. Each datum BY PROGRAM (the guide's laid-datum.mjs) off the statement by which the dump's own 'gosem.cut.vars' lays the variable. In a bare row this is a premise. The card (YtkkimgjcefojdaaGreatDoorCards.lean) ties it to the program's text. -/
def laid_errors_errorType {H : Type} : DataW H := .iface "internal/reflectlite.rtype" (.agg [.ptr (.lit (.string [101, 114, 114, 111, 114]))])
def laid_loop_example_g00504_impl_errDropped {H : Type} : DataW H := .iface "*errors.errorString" (.ptr (.agg [.lit (.string [102, 114, 97, 109, 101, 32, 100, 114, 111, 112, 112, 101, 100])]))

/-- 'laws.FnLink': WHATEVER THE INPUT: true; the input reads as it did. -/
def fnLinkSpec : ChangeSpec := { name := "fnLink", vars := ["loop.example/g00504/impl.errDropped"], fn := fun _ => fun
  | [d, g1] => { results := [.lit (.bool true)], args := [d], vars := [g1] }
  | _ => none }
def fnLinkRow : OpenClaim := { program := "ytkkimgjcefojdaagreatdoor", sum := "d93d5c13aae2311f61955f41c1b3d650ff58730b9ae40f17bc859ea1480f131b", func := "loop.example/g00504/laws.FnLink", spec := "fnLink", inPlace := ["internal/reflectlite.ValueOf", "(internal/reflectlite.Value).Type", "(internal/reflectlite.Value).IsNil", "internal/reflectlite.TypeOf", "(internal/reflectlite.Value).Elem", "(internal/reflectlite.Value).Set"], unfollowed := true, recurses := true, named := ["loop.example/g00504/impl.errDropped", "errors.errorType"], ifaces := true, apart := false, laid := [("errors.errorType", laid_errors_errorType), ("loop.example/g00504/impl.errDropped", laid_loop_example_g00504_impl_errDropped)] }
def FnLinkSaid : Prop := fnLinkRow.holds Tryz.pinned (OpenSpec.ofChange fnLinkSpec)

/-- ITS FALSE NEIGHBOUR: 'it returns false'. Refute it at one input. -/
def fnLinkWrong : ChangeSpec := { name := "fnLink", vars := ["loop.example/g00504/impl.errDropped"], fn := fun _ => fun
  | [d, g1] => { results := [.lit (.bool false)], args := [d], vars := [g1] }
  | _ => none }
def FnLinkWrongFalsely : Prop := fnLinkRow.holds Tryz.pinned (OpenSpec.ofChange fnLinkWrong)

/-- 'laws.FnLinkBack': WHATEVER THE INPUT: true; the input reads as it did. -/
def fnLinkBackSpec : ChangeSpec := { name := "fnLinkBack", vars := ["loop.example/g00504/impl.errDropped"], fn := fun _ => fun
  | [d, g1] => { results := [.lit (.bool true)], args := [d], vars := [g1] }
  | _ => none }
def fnLinkBackRow : OpenClaim := { program := "ytkkimgjcefojdaagreatdoor", sum := "d93d5c13aae2311f61955f41c1b3d650ff58730b9ae40f17bc859ea1480f131b", func := "loop.example/g00504/laws.FnLinkBack", spec := "fnLinkBack", inPlace := ["internal/reflectlite.ValueOf", "(internal/reflectlite.Value).Type", "(internal/reflectlite.Value).IsNil", "internal/reflectlite.TypeOf", "(internal/reflectlite.Value).Elem", "(internal/reflectlite.Value).Set"], unfollowed := true, recurses := true, named := ["loop.example/g00504/impl.errDropped", "errors.errorType"], ifaces := true, apart := false, laid := [("errors.errorType", laid_errors_errorType), ("loop.example/g00504/impl.errDropped", laid_loop_example_g00504_impl_errDropped)] }
def FnLinkBackSaid : Prop := fnLinkBackRow.holds Tryz.pinned (OpenSpec.ofChange fnLinkBackSpec)

/-- ITS FALSE NEIGHBOUR: 'it returns false'. Refute it at one input. -/
def fnLinkBackWrong : ChangeSpec := { name := "fnLinkBack", vars := ["loop.example/g00504/impl.errDropped"], fn := fun _ => fun
  | [d, g1] => { results := [.lit (.bool false)], args := [d], vars := [g1] }
  | _ => none }
def FnLinkBackWrongFalsely : Prop := fnLinkBackRow.holds Tryz.pinned (OpenSpec.ofChange fnLinkBackWrong)

/-- 'laws.FnExactLinkIn': WHATEVER THE INPUT: true; the input reads as it did. -/
def fnExactLinkInSpec : ChangeSpec := { name := "fnExactLinkIn", vars := ["loop.example/g00504/impl.errDropped"], fn := fun _ => fun
  | [d1, d2, g1] => { results := [.lit (.bool true)], args := [d1, d2], vars := [g1] }
  | _ => none }
def fnExactLinkInRow : OpenClaim := { program := "ytkkimgjcefojdaagreatdoor", sum := "d93d5c13aae2311f61955f41c1b3d650ff58730b9ae40f17bc859ea1480f131b", func := "loop.example/g00504/laws.FnExactLinkIn", spec := "fnExactLinkIn", inPlace := ["internal/reflectlite.ValueOf", "(internal/reflectlite.Value).Type", "(internal/reflectlite.Value).IsNil", "internal/reflectlite.TypeOf", "(internal/reflectlite.Value).Elem", "(internal/reflectlite.Value).Set"], unfollowed := true, recurses := true, named := ["loop.example/g00504/impl.errDropped", "errors.errorType"], ifaces := true, apart := false, laid := [("errors.errorType", laid_errors_errorType), ("loop.example/g00504/impl.errDropped", laid_loop_example_g00504_impl_errDropped)] }
def FnExactLinkInSaid : Prop := fnExactLinkInRow.holds Tryz.pinned (OpenSpec.ofChange fnExactLinkInSpec)

/-- ITS FALSE NEIGHBOUR: 'it returns false'. Refute it at one input. -/
def fnExactLinkInWrong : ChangeSpec := { name := "fnExactLinkIn", vars := ["loop.example/g00504/impl.errDropped"], fn := fun _ => fun
  | [d1, d2, g1] => { results := [.lit (.bool false)], args := [d1, d2], vars := [g1] }
  | _ => none }
def FnExactLinkInWrongFalsely : Prop := fnExactLinkInRow.holds Tryz.pinned (OpenSpec.ofChange fnExactLinkInWrong)

/- THE SECOND FORM. 'bulk': how many values and letters a reading holds, each counted each time it is reached (what is shared counts as often as it is met; a slice's spare places count too). A statement '..UptoSaid' is the law's where the arguments, and the package variables that the reading takes, are together of bulk at most 1048576: NARROWER than '..Said'. Prove '..Said' where nothing that the law and all that it calls make is longer than what came in: it says more and counts as full. Else prove '..UptoSaid'. A law counts once. -/
mutual
def uptoBulk {H : Type} : DataW H → Nat
  | .lit (.string bytes) => bytes.length + 1
  | .lit _ => 1
  | .nil => 1
  | .ptr d => uptoBulk d + 1
  | .slice elems spare => uptoBulkAll elems + uptoBulkAll spare + 1
  | .agg parts => uptoBulkAll parts + 1
  | .iface _ d => uptoBulk d + 1
  | .map entries => uptoBulkEntries entries + 1
  | .held _ => 1
def uptoBulkAll {H : Type} : List (DataW H) → Nat
  | [] => 0
  | d :: r => uptoBulk d + uptoBulkAll r
def uptoBulkEntries {H : Type} : List (Lit × DataW H) → Nat
  | [] => 0
  | x :: r => uptoBulkEntry x + uptoBulkEntries r
def uptoBulkEntry {H : Type} : Lit × DataW H → Nat
  | (.string bytes, d) => bytes.length + uptoBulk d + 1
  | (_, d) => uptoBulk d + 1
 end
def uptoSmall : (H : Type) → List (DataW H) → Bool := fun _ ds => decide (uptoBulkAll ds ≤ 1048576)
def OpenSpec.upto (s : _root_.Go.ChangeSpec) : _root_.Go.OpenSpec := { _root_.Go.OpenSpec.ofChange s with cond := some uptoSmall }

/-- 'laws.FnLink', WHERE WHAT IT READS IS OF BULK AT MOST 1048576: true; the input reads as it did. -/
def fnLinkUptoRow : OpenClaim := { program := "ytkkimgjcefojdaagreatdoor", sum := "d93d5c13aae2311f61955f41c1b3d650ff58730b9ae40f17bc859ea1480f131b", func := "loop.example/g00504/laws.FnLink", spec := "fnLink", inPlace := ["internal/reflectlite.ValueOf", "(internal/reflectlite.Value).Type", "(internal/reflectlite.Value).IsNil", "internal/reflectlite.TypeOf", "(internal/reflectlite.Value).Elem", "(internal/reflectlite.Value).Set"], unfollowed := true, recurses := true, named := ["loop.example/g00504/impl.errDropped", "errors.errorType"], ifaces := true, apart := false, laid := [("errors.errorType", laid_errors_errorType), ("loop.example/g00504/impl.errDropped", laid_loop_example_g00504_impl_errDropped)], narrowed := true }
def FnLinkUptoSaid : Prop := fnLinkUptoRow.holds Tryz.pinned (OpenSpec.upto fnLinkSpec)

/-- 'laws.FnLinkBack', WHERE WHAT IT READS IS OF BULK AT MOST 1048576: true; the input reads as it did. -/
def fnLinkBackUptoRow : OpenClaim := { program := "ytkkimgjcefojdaagreatdoor", sum := "d93d5c13aae2311f61955f41c1b3d650ff58730b9ae40f17bc859ea1480f131b", func := "loop.example/g00504/laws.FnLinkBack", spec := "fnLinkBack", inPlace := ["internal/reflectlite.ValueOf", "(internal/reflectlite.Value).Type", "(internal/reflectlite.Value).IsNil", "internal/reflectlite.TypeOf", "(internal/reflectlite.Value).Elem", "(internal/reflectlite.Value).Set"], unfollowed := true, recurses := true, named := ["loop.example/g00504/impl.errDropped", "errors.errorType"], ifaces := true, apart := false, laid := [("errors.errorType", laid_errors_errorType), ("loop.example/g00504/impl.errDropped", laid_loop_example_g00504_impl_errDropped)], narrowed := true }
def FnLinkBackUptoSaid : Prop := fnLinkBackUptoRow.holds Tryz.pinned (OpenSpec.upto fnLinkBackSpec)

/-- 'laws.FnExactLinkIn', WHERE WHAT IT READS IS OF BULK AT MOST 1048576: true; the input reads as it did. -/
def fnExactLinkInUptoRow : OpenClaim := { program := "ytkkimgjcefojdaagreatdoor", sum := "d93d5c13aae2311f61955f41c1b3d650ff58730b9ae40f17bc859ea1480f131b", func := "loop.example/g00504/laws.FnExactLinkIn", spec := "fnExactLinkIn", inPlace := ["internal/reflectlite.ValueOf", "(internal/reflectlite.Value).Type", "(internal/reflectlite.Value).IsNil", "internal/reflectlite.TypeOf", "(internal/reflectlite.Value).Elem", "(internal/reflectlite.Value).Set"], unfollowed := true, recurses := true, named := ["loop.example/g00504/impl.errDropped", "errors.errorType"], ifaces := true, apart := false, laid := [("errors.errorType", laid_errors_errorType), ("loop.example/g00504/impl.errDropped", laid_loop_example_g00504_impl_errDropped)], narrowed := true }
def FnExactLinkInUptoSaid : Prop := fnExactLinkInUptoRow.holds Tryz.pinned (OpenSpec.upto fnExactLinkInSpec)

end Rows
end Go.Proofs.YtkkimgjcefojdaaGreatDoor
