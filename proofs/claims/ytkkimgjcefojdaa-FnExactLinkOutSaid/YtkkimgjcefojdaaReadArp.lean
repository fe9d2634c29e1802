/- ReadArp, of the model and of the program. -/
import Derived.Test.YtkkimgjcefojdaaArpTxt
import Derived.Test.YtkkimgjcefojdaaArpTxtS
import Derived.Test.YtkkimgjcefojdaaGetI
import Derived.Test.YtkkimgjcefojdaaGetS
import Derived.Test.YtkkimgjcefojdaaCurA
namespace Go.Proofs.Ytkkimgjcefojdaa
open Go.RowKit Go.Lib



end Go.Proofs.Ytkkimgjcefojdaa
