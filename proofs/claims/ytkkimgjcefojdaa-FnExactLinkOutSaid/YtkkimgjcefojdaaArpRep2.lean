/- ArpReply, of the model and of the program: one contract each. -/
import Derived.Test.YtkkimgjcefojdaaArpRep
namespace Go.Proofs.Ytkkimgjcefojdaa
open Go.RowKit Go.Lib

def rpF (k a b d m ip x : Int) : Int := if rpOk k a b d m ip then x else 0
def rpV (k a b d m ip : Int) : Value := .tuple #[.agg #[.int .i64 (rpF k a b d m ip 2), .int .i64 (rpF k a b d m ip m), .int .i64 (rpF k a b d m ip ip), .int .i64 (rpF k a b d m ip a), .int .i64 (rpF k a b d m ip b)], .bool (rpOk k a b d m ip)]
theorem rpV_yes (k a b d m ip : Int) (h : rpOk k a b d m ip = true) : rpV k a b d m ip = .tuple #[.agg #[.int .i64 2, .int .i64 m, .int .i64 ip, .int .i64 a, .int .i64 b], .bool true] := by
  unfold rpV rpF; simp only [h, if_true]
theorem rpV_no (k a b d m ip : Int) (h : rpOk k a b d m ip = false) : rpV k a b d m ip = .tuple #[.agg #[.int .i64 0, .int .i64 0, .int .i64 0, .int .i64 0, .int .i64 0], .bool false] := by
  unfold rpV rpF; simp only [h, Bool.false_eq_true, if_false]

end Go.Proofs.Ytkkimgjcefojdaa
