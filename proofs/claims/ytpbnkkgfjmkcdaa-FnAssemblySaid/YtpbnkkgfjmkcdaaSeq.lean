/- Chapter 4, both sides: SeqAdd, SeqDiff, SeqBelow, SeqUpTo, InWindow. -/
import Derived.Test.YtpbnkkgfjmkcdaaSeqKit
import Derived.Test.YtpbnkkgfjmkcdaaSeqA
namespace Go.Proofs.Ytpbnkkgfjmkcdaa
open Go.RowKit Go.Lib

set_option maxHeartbeats 400000 in
theorem seqAddI (a n : Int) (w : World) : Calls Try.prog 15 #[.int .i64 a, .int .i64 n] w fun e w' => e = .returned (.int .i64 (pl (a + n))) ∧ w = w' := by
  go_enter Try.func15, Try.ntmps15
  go_wp2
  go_ret
  refine ⟨?_, rfl⟩
  have e : bits BinOp.and IntKind.i64 (wrap64 (a + n)) 4294967295 = pl (a + n) := by rw [and_seq, wrap64_is]; unfold pl; omega
  rw [e]
  rfl

/-- What orderOf answers. -/
def ordOf (a b : Int) : Int := if df a b < 0 then 0 else if 0 < df a b then 2 else 1
/-- What InWindow answers. -/
def inW (x f s : Int) : Bool := decide (pl (x - f) < s)
end Go.Proofs.Ytpbnkkgfjmkcdaa
