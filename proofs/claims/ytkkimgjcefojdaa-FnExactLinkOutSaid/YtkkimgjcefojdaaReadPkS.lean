/- ReadPacket, of the model. Nothing here is a claim. -/
import Derived.Test.YtkkimgjcefojdaaPacketKit
import Derived.Test.YtkkimgjcefojdaaSum
import Derived.Test.YtkkimgjcefojdaaGetS
import Derived.Test.YtkkimgjcefojdaaCurA
import Derived.Deep.RegionWith
import Derived.Deep.RegionHeld3
namespace Go.Proofs.Ytkkimgjcefojdaa
open Go.RowKit Go.Lib

end Go.Proofs.Ytkkimgjcefojdaa
