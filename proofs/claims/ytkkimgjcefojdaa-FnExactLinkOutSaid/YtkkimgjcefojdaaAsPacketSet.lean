/- errors.As at a target of the program's own error type: what is known behind the call. Nothing here is a claim. -/
import Derived.Test.YtkkimgjcefojdaaAsPacket
import Derived.Test.YtkkimgjcefojdaaCurA
namespace Go.Proofs.Ytkkimgjcefojdaa
open Go.RowKit Go.Lib

end Go.Proofs.Ytkkimgjcefojdaa
