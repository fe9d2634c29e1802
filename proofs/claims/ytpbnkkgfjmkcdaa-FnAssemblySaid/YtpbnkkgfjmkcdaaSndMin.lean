/- The model's l1Min and l1Max, by Below. Nothing here is a claim. -/
import Derived.Test.YtpbnkkgfjmkcdaaMinMax
import Derived.Test.YtpbnkkgfjmkcdaaSndKit
namespace Go.Proofs.Ytpbnkkgfjmkcdaa
open Go.RowKit Go.Lib

theorem l1Min_s (a b : Int) (w : World) : Calls Try.prog 52 #[.int .i64 a, .int .i64 b] w (SndI (min a b) w) := (l1Min_mm a b w).mono fun _ _ h => ⟨h.1, by rw [← h.2]; exact Below.refl _ _⟩
theorem l1Max_s (a b : Int) (w : World) : Calls Try.prog 51 #[.int .i64 a, .int .i64 b] w (SndI (max a b) w) := (l1Max_mm a b w).mono fun _ _ h => ⟨h.1, by rw [← h.2]; exact Below.refl _ _⟩
end Go.Proofs.Ytpbnkkgfjmkcdaa
