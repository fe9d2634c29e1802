/- The draws' own l5Long. -/
import Derived.Test.YtkigkfedkjnkeaaBase
import Derived.Test.YtkigkfedkjnkeaaKit
namespace Go.Proofs.Ytkigkfedkjnkeaa
open Go.RowKit Go.Lib

theorem made_zero (k : Nat) : (madeCells (Value.int IntKind.u8 0).cells (k * 1)).toList = byteCells (List.replicate k (0 : UInt8)) := by
  apply List.ext_getElem?
  intro j
  by_cases hj : j < k
  · simp [madeCells, byteCells, hj, Value.cells, Nat.mod_one]
  · simp [madeCells, byteCells, hj]

set_option maxHeartbeats 400000 in
theorem l5Long_any (k : Nat) (hk : k ≤ 1000000) (w : World) :
    Calls Try.prog 63 #[.int .i64 k] w fun e w' => ∃ b : ByteArray, e = .returned (.string b) ∧ b.size = k ∧ Below w.heap.size w w' := by
  obtain ⟨i0, hi, hz0, hz1, hz2⟩ := info_parts Try.info5
  go_enter Try.func63, Try.ntmps63
  go_wp2_with (at_make; refine wpList_make_full _ rfl _ _ _ rfl w.heap.size 5 i0 _ 1 Try.underlying22 hi hz0 hz1 _ _ _ _ k rfl rfl rfl rfl (by rw [hz2]; omega) (by unfold maxLen; omega) (Nat.le_refl _) ?_; intro w1 hown hgrow; rw [made_zero] at hown; have hcv := run_string_own (P := Try.prog) Try.underlying22 Try.underlying5 Try.underlying9 hown)
  go_ret
  exact ⟨_, rfl, by simp [ByteArray.size], below_made hgrow⟩
end Go.Proofs.Ytkigkfedkjnkeaa
