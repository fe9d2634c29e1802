/- ArpText, of the model and of the program. -/
import Derived.Test.YtkkimgjcefojdaaArpOk
import Derived.Test.YtkkimgjcefojdaaPutI
import Derived.Test.YtkkimgjcefojdaaPutS
import Derived.Test.YtkkimgjcefojdaaKit
import Derived.Deep.RegionHeld3
namespace Go.Proofs.Ytkkimgjcefojdaa
open Go.RowKit Go.Lib


end Go.Proofs.Ytkkimgjcefojdaa
