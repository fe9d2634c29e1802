/- The laws' own at0. -/
import Derived.Test.YtlfbcfhekfmkfaaBase
import Derived.Test.YtlfbcfhekfmkfaaCurKit
namespace Go.Proofs.Ytlfbcfhekfmkfaa
open Go.RowKit Go.Lib

set_option maxHeartbeats 400000 in
theorem at0_any (a : Option Addr) (bs : List UInt8) (cap i : Nat) (hi : i ≤ 100) (B : Nat) (w : World) (hrow : Row w B a (byteCells bs)) (hbs : bs.length ≤ 1048576) :
    Calls Try.prog 17 #[.slice a bs.length cap, .int .i64 i] w fun e w' => ∃ n : Int, e = .returned (.int .i64 n) ∧ (0 ≤ n ∧ n ≤ 255) ∧ w = w' := by
  by_cases hk : i < bs.length
  · obtain ⟨b, off, rfl, hb, hcs⟩ := hrow.byte hk
    have c := hcs i hk
    have h8 : bs[i].toNat < 256 := bs[i].toNat_lt
    clear hrow hcs
    go_enter Try.func17, Try.ntmps17
    go_wp2_with fail
    go_ret
    exact ⟨_, rfl, ⟨by omega, by omega⟩, rfl⟩
  · clear hrow
    go_enter Try.func17, Try.ntmps17
    go_wp2_with fail
    go_ret
    exact ⟨_, rfl, ⟨by omega, by omega⟩, rfl⟩
end Go.Proofs.Ytlfbcfhekfmkfaa
