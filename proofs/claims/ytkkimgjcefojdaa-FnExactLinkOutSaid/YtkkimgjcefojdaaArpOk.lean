/- ArpOk, of the model and of the program. -/
import Derived.Test.YtkkimgjcefojdaaArpKit
import Derived.Test.YtkkimgjcefojdaaWordA
namespace Go.Proofs.Ytkkimgjcefojdaa
open Go.RowKit Go.Lib


end Go.Proofs.Ytkkimgjcefojdaa
