/- The laws' own eqStringS. -/
import Derived.Test.YtbpmebpnnooidaaDoorBase
import Derived.Test.YtbpmebpnnooidaaDoorJoinKit
namespace Go.Proofs.YtbpmebpnnooidaaDoor
open Go.RowKit Go.Lib

set_option maxHeartbeats 1000000 in
/-- Two lists that are the same. -/
theorem eqStr' (a c : Option Addr) (cap cap' : Nat) (ss : List ByteArray) (w : World) (hrow : Row w w.heap.size a (strVals ss)) (hrow' : Row w w.heap.size c (strVals ss)) (hl : ss.length ≤ 1048577) :
    Calls Tryd.prog 21 #[.slice a ss.length cap, .slice c ss.length cap'] w fun e w' => e = .returned (.bool true) ∧ Below w.heap.size w w' := by
  go_enter Tryd.func21, Tryd.ntmps21
  go_wp2_with fail
  go_loopw [5] (fun i wr => ∃ k : Nat, k ≤ ss.length ∧ i = .int .i64 k ∧ Below w.heap.size w wr)
    (fun i _ => ss.length - (RowKit.intOf i).toNat)
  case atStart => exact ⟨0, Nat.zero_le _, rfl, Below.refl _ _⟩
  case round =>
    obtain ⟨k, hk, rfl, hb⟩ := hrel
    by_cases hlt : k < ss.length
    · obtain ⟨b, off, rfl, hbb, hcs⟩ := (hrow.below hb).str hlt
      obtain ⟨b', off', rfl, hbb', hcs'⟩ := (hrow'.below hb).str hlt
      have hc := hcs k hlt
      have hc' := hcs' k hlt
      have hk0 : (0 : Int) ≤ (k : Int) := Int.natCast_nonneg _
      have hk1 : (k : Int) < (ss.length : Int) := by omega
      clear hcs hcs' hrow hrow'
      go_wp2_with fail
      go_quiet (fail)
      go_wp2_with fail
      go_roundw
      case rel => exact ⟨k + 1, by omega, by go_num, ⟨hb.os, hb.tape, hb.output, hb.size, hb.block⟩⟩
      case measure => simp [RowKit.intOf]; omega
    · go_wp2_with fail
      go_ret
      exact ⟨rfl, hb⟩
theorem eqStr (a c : Option Addr) (cap cap' : Nat) (ss : List ByteArray) (w : World) (hrow : Row w w.heap.size a (strVals ss)) (hrow' : Row w w.heap.size c (strVals ss)) (hl : ss.length ≤ 1048576) :
    Calls Tryd.prog 21 #[.slice a ss.length cap, .slice c ss.length cap'] w fun e w' => e = .returned (.bool true) ∧ Below w.heap.size w w' := eqStr' a c cap cap' ss w hrow hrow' (by omega)
end Go.Proofs.YtbpmebpnnooidaaDoor
