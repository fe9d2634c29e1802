/- ReadPacket, of the program. Nothing here is a claim. -/
import Derived.Test.YtkkimgjcefojdaaAsPacketSet
import Derived.Test.YtkkimgjcefojdaaFault
import Derived.Test.YtkkimgjcefojdaaCurA
import Derived.Deep.RegionWith
import Derived.Deep.RegionHeld3
namespace Go.Proofs.Ytkkimgjcefojdaa
open Go.RowKit Go.Lib

theorem post_put {P : Program} {fn : Func} {R : Ending → World → Prop} {x : Exit} {a : Act} {d : Option Nat} {w : World} {v : Value} (n : Nat) (hd : d = some n) (h : bodyPost P fn R x (a.put (some n) v) w) : bodyPost P fn R x (a.put d v) w := by
  subst hd; exact h
theorem Blk.under {w w' : World} {B r : Nat} {vs : List Value} (h : Blk w r vs) (hb : Below B w w') (hr : r < B) : Blk w' r vs := by
  obtain ⟨t, h⟩ := h
  exact ⟨t, (hb.block r hr).trans h⟩

end Go.Proofs.Ytkkimgjcefojdaa
