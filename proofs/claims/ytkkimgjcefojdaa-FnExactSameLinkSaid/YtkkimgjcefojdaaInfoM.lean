/- The type MacRow's facts. Nothing here is a claim. -/
import Derived.Test.YtkkimgjcefojdaaBase
namespace Go.Proofs.Ytkkimgjcefojdaa
open Go.RowKit Go.Lib

end Go.Proofs.Ytkkimgjcefojdaa
