/- The type MacRow's facts. Nothing here is a claim. -/
import Derived.Test.YtgneinjnkmaecaaBase
namespace Go.Proofs.Ytgneinjnkmaecaa
open Go.RowKit Go.Lib

end Go.Proofs.Ytgneinjnkmaecaa
