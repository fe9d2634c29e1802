/- The type MacRow's facts. Nothing here is a claim. -/
import Derived.Test.YthckbabcmmkljaaBase
namespace Go.Proofs.Ythckbabcmmkljaa
open Go.RowKit Go.Lib

end Go.Proofs.Ythckbabcmmkljaa
