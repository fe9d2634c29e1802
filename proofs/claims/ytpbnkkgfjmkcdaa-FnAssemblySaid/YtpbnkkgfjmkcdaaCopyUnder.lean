/- Blocks below a bound. Nothing here is a claim. -/
import Derived.Test.YtpbnkkgfjmkcdaaCurA
namespace Go.Proofs.Ytpbnkkgfjmkcdaa
open Go.RowKit Go.Lib

theorem blk_under {w w' : World} {B r : Nat} {vs : List Value} (h : Blk w r vs) (hb : Below B w w') (hr : r < B) : Blk w' r vs := by
  obtain ⟨t, ht⟩ := h
  exact ⟨t, (hb.block r hr).trans ht⟩
end Go.Proofs.Ytpbnkkgfjmkcdaa
