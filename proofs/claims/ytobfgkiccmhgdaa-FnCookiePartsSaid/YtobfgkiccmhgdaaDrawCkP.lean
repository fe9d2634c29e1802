/- The draw DrawCookieParts. Nothing here is a claim. -/
import Derived.Test.YtobfgkiccmhgdaaL4Place
namespace Go.Proofs.Ytobfgkiccmhgdaa
open Go.RowKit Go.Lib

set_option maxHeartbeats 1000000 in
theorem drawCookP (a : Option Addr) (bs : List UInt8) (cap : Nat) (w : World) (hrow : Row w w.heap.size a (byteCells bs)) (hbs : bs.length ≤ 1048576) :
    Calls Try.prog 24 #[.slice a bs.length cap] w fun e w' => ∃ n : Int, e = .returned (.int .i64 n) ∧ I64 n ∧ Below w.heap.size w w' := by
  have C := Lib.hid (l1New_any a bs cap w hrow hbs)
  clear hrow
  go_enter Try.func24, Try.ntmps24
  go_wp2_with fail
  refine C.out.mono ?_
  rintro e w1 ⟨g, rfl, hc1, hb1⟩
  have C1 := Lib.hid hc1
  have B1 := Lib.hid hb1
  clear hc1 hb1
  go_wp2_with fail
  refine (l4Place_any _ g w1 C1.out).mono ?_
  rintro e w2 ⟨n, rfl, hn, hc2, hg2⟩
  have N := Lib.hid hn
  have B2 := Lib.hid (below_new B1.out C1.out hg2)
  clear hn hc2 hg2
  go_wp2_with fail
  go_ret
  exact ⟨n, rfl, N.out, B2.out⟩
end Go.Proofs.Ytobfgkiccmhgdaa
