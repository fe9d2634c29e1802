/- Places of a sender, of both sides. Nothing here is a claim. -/
import Derived.Test.YtpbnkkgfjmkcdaaSndKit
import Derived.Test.YtpbnkkgfjmkcdaaSeq
import Derived.Test.YtpbnkkgfjmkcdaaCurA
import Derived.Deep.RegionHeld3
import Derived.Deep.QuietTactic
import Derived.Deep.DeepCutAuto
import Derived.BigQuiet
namespace Go.Proofs.Ytpbnkkgfjmkcdaa
open Go.RowKit Go.Lib

theorem seqAddI_s (a n : Int) (w : World) : Calls Try.prog 15 #[.int .i64 a, .int .i64 n] w (SndI (pl (a + n)) w) := (seqAddI a n w).mono fun _ _ h => ⟨h.1, by rw [← h.2]; exact Below.refl _ _⟩
theorem seqAddS_s (a n : Int) (w : World) : Calls Try.prog 19 #[.int .i64 a, .int .i64 n] w (SndI (pl (a + n)) w) := (seqAddS a n w).mono fun _ _ h => ⟨h.1, by rw [← h.2]; exact Below.refl _ _⟩
theorem below_drewN {B : Nat} {a b : World} (h : Below B a b) (n : Nat) : Below B a (b.drewN n) := ⟨h.os, h.tape, h.output, h.size, h.block⟩

end Go.Proofs.Ytpbnkkgfjmkcdaa
