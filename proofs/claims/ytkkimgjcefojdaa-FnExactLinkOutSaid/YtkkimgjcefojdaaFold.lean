/- spec.Folded, impl.Folded -/
import Derived.Test.YtkkimgjcefojdaaBase
import Derived.Test.YtkkimgjcefojdaaKit
namespace Go.Proofs.Ytkkimgjcefojdaa
open Go.RowKit Go.Lib

set_option maxHeartbeats 400000 in
theorem foldedS (n : Int) (hn : n ≤ 9223372036854775807) (w : World) :
    Calls Try.prog 44 #[.int .i64 n] w fun e w' => e = .returned (.int .i64 (foldI n)) ∧ w = w' := by
  by_cases h : n < 0
  · rw [foldI_neg n h]
    go_enter Try.func44, Try.ntmps44
    go_wp2_with fail
    go_ret
    exact ⟨rfl, rfl⟩
  · go_enter Try.func44, Try.ntmps44
    go_wp2_with fail
    go_loop [0] (fun x => ∃ q : Int, x = .int .i64 q ∧ (0 ≤ q ∧ q ≤ 9223372036854775807) ∧ Hid (foldI q = foldI n))
      (fun x => (RowKit.intOf x).toNat)
    case atStart => exact ⟨n, rfl, ⟨by omega, hn⟩, rfl⟩
    case round =>
      obtain ⟨q, rfl, ⟨q0, q1⟩, hq⟩ := hrel
      by_cases hlt : 65535 < q
      · have E : Hid (foldI (q / 65536 + q % 65536) = foldI n) := by show _ = _; rw [foldI_step q hlt]; exact hq.out
        go_wp2_with fail
        go_round
        case rel => exact ⟨_, by go_num, ⟨by omega, by omega⟩, E⟩
        case measure => simp [RowKit.intOf]; omega
      · have E : Hid (foldI n = q) := by show _ = _; rw [← hq.out]; exact foldI_small q q0 (by omega)
        clear hq
        go_wp2_with fail
        go_ret
        rw [E.out]
        exact ⟨rfl, rfl⟩

set_option maxHeartbeats 400000 in
theorem foldedI (n : Int) (hn : n ≤ 9223372036854775807) (w : World) :
    Calls Try.prog 49 #[.int .i64 n] w fun e w' => e = .returned (.int .i64 (foldI n)) ∧ w = w' := by
  by_cases h : n < 0
  · rw [foldI_neg n h]
    go_enter Try.func49, Try.ntmps49
    go_wp2_with fail
    go_ret
    exact ⟨rfl, rfl⟩
  · go_enter Try.func49, Try.ntmps49
    go_wp2_with fail
    go_loop [0] (fun x => ∃ q : Int, x = .int .i64 q ∧ (0 ≤ q ∧ q ≤ 9223372036854775807) ∧ Hid (foldI q = foldI n))
      (fun x => (RowKit.intOf x).toNat)
    case atStart => exact ⟨n, rfl, ⟨by omega, hn⟩, rfl⟩
    case round =>
      obtain ⟨q, rfl, ⟨q0, q1⟩, hq⟩ := hrel
      by_cases hlt : 65535 < q
      · have E : Hid (foldI (q / 65536 + q % 65536) = foldI n) := by show _ = _; rw [foldI_step q hlt]; exact hq.out
        have hm := and_mask q q0 q1
        go_wp2_with fail
        go_round
        case rel => exact ⟨_, by go_num, ⟨by omega, by omega⟩, E⟩
        case measure => simp [RowKit.intOf]; omega
      · have E : Hid (foldI n = q) := by show _ = _; rw [← hq.out]; exact foldI_small q q0 (by omega)
        clear hq
        go_wp2_with fail
        go_ret
        rw [E.out]
        exact ⟨rfl, rfl⟩
end Go.Proofs.Ytkkimgjcefojdaa
