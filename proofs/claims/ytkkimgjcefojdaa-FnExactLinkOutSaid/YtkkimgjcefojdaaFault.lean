/- packetFault, of the program. Nothing here is a claim. -/
import Derived.Test.YtkkimgjcefojdaaPacketKit
import Derived.Test.YtkkimgjcefojdaaSum
import Derived.Test.YtkkimgjcefojdaaGetI
import Derived.Below
namespace Go.Proofs.Ytkkimgjcefojdaa
open Go.RowKit Go.Lib

end Go.Proofs.Ytkkimgjcefojdaa
