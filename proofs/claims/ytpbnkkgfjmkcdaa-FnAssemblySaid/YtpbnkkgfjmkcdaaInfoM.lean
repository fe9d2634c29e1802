/- The type MacRow's facts. Nothing here is a claim. -/
import Derived.Test.YtpbnkkgfjmkcdaaBase
namespace Go.Proofs.Ytpbnkkgfjmkcdaa
open Go.RowKit Go.Lib

end Go.Proofs.Ytpbnkkgfjmkcdaa
