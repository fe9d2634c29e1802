/- The laws' own place. -/
import Derived.Test.YtkigkfedkjnkeaaSeq
namespace Go.Proofs.Ytkigkfedkjnkeaa
open Go.RowKit Go.Lib

set_option maxHeartbeats 400000 in
theorem place_is (n : Int) (w : World) : Calls Try.prog 32 #[.int .i64 n] w fun e w' => e = .returned (.int .i64 (pl n)) ∧ w = w' := by
  go_enter Try.func32, Try.ntmps32
  go_wp2
  · go_ret
    refine ⟨?_, rfl⟩
    have := tmod_is n 4294967296 (by decide)
    have e : wrap64 (n.tmod 4294967296 + 4294967296) = pl n := by rw [wrap64_is]; unfold pl; omega
    rw [e]
    rfl
  · go_ret
    refine ⟨?_, rfl⟩
    have := tmod_is n 4294967296 (by decide)
    have e : n.tmod 4294967296 = pl n := by unfold pl; omega
    rw [e]
    rfl
end Go.Proofs.Ytkigkfedkjnkeaa
