/- The draws' own l4Place; four results handed back. -/
import Derived.Test.YtpbnkkgfjmkcdaaDeep
import Derived.Test.YtpbnkkgfjmkcdaaCurO
import Derived.Test.YtpbnkkgfjmkcdaaWhole
namespace Go.Proofs.Ytpbnkkgfjmkcdaa
open Go.RowKit Go.Lib

theorem results_four {fn : Func} {t u v x : Tmp} (h : fn.results = #[.tmp t, .tmp u, .tmp v, .tmp x]) (tmps : Array Value) (P : Program) (w : World) :
    (results fn tmps).run P w = .ok (.tuple #[tmps.getD t undef, tmps.getD u undef, tmps.getD v undef, tmps.getD x undef]) w := by
  simp [results, h]

set_option maxHeartbeats 1000000 in
theorem l4Place_any (B g : Nat) (w : World) (hc : CurB w B g) : Calls Try.prog 32 #[.pointer (some ⟨g, 0, none⟩)] w (WholeEnd w B g) := by
  have C := Lib.hid (l1Once_any B g w hc 12 (by omega) (by omega))
  clear hc
  go_enter Try.func32, Try.ntmps32
  go_wp2_with fail
  refine C.out.mono ?_
  rintro e w1 ⟨b, rfl, hc1, hg1⟩
  have C1 := Lib.hid hc1
  have G1 := Lib.hid hg1
  clear hc1 hg1
  cases b with
  | true =>
    go_wp2_with fail
    refine (l1Whole_any B g w1 C1.out).mono ?_
    rintro e w2 ⟨n, rfl, hn, hc2, hg2⟩
    have N := Lib.hid hn
    have C2 := Lib.hid hc2
    have G2 := Lib.hid (grown_tr G1.out hg2)
    clear hn hc2 hg2
    go_wp2_with fail
    go_ret
    exact ⟨n, rfl, N.out, C2.out, G2.out⟩
  | false =>
    go_wp2_with fail
    refine (l2Deep_any B g w1 C1.out).mono ?_
    rintro e w2 ⟨n, rfl, hn, hc2, hg2⟩
    have N := Lib.hid hn
    have C2 := Lib.hid hc2
    have G2 := Lib.hid (grown_tr G1.out hg2)
    clear hn hc2 hg2
    go_wp2_with fail
    go_ret
    exact ⟨n, rfl, N.out, C2.out, G2.out⟩

end Go.Proofs.Ytpbnkkgfjmkcdaa
