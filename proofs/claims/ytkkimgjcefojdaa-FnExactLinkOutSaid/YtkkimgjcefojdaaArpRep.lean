/- ArpReply, of the model and of the program. -/
import Derived.Test.YtkkimgjcefojdaaArpOk
import Derived.Test.YtkkimgjcefojdaaCurA
namespace Go.Proofs.Ytkkimgjcefojdaa
open Go.RowKit Go.Lib

/-- Whether there is an answer. -/
def rpOk (k a b d m ip : Int) : Bool := decide (k = 1) && (decide (d = ip) && arpOk 2 m ip a b)

end Go.Proofs.Ytkkimgjcefojdaa
