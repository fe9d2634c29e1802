/- The draws' own l1Once. -/
import Derived.Test.YtpbnkkgfjmkcdaaCurA
namespace Go.Proofs.Ytpbnkkgfjmkcdaa
open Go.RowKit Go.Lib

/-- A coin. -/
theorem l1Once_any (B g : Nat) (w : World) (hc : CurB w B g) (n : Int) (h0 : 0 < n) (h1 : n ≤ 4000000000) :
    Calls Try.prog 31 #[.pointer (some ⟨g, 0, none⟩), .int .i64 n] w fun e w' => ∃ b : Bool, e = .returned (.bool b) ∧ CurB w' B g ∧ w.grownBy w' (some g) := by
  have C := Lib.hid (l1Below_pos B g w hc n h0 h1)
  clear hc
  go_enter Try.func31, Try.ntmps31
  go_wp2_with fail
  refine C.out.mono ?_
  rintro e w1 ⟨r, rfl, ⟨r0, r1⟩, hc1, hg1⟩
  have C1 := Lib.hid hc1
  have G1 := Lib.hid hg1
  clear hc1 hg1
  go_wp2_with fail
  go_ret
  exact ⟨_, rfl, C1.out, G1.out⟩
end Go.Proofs.Ytpbnkkgfjmkcdaa
