import Derived.Test.YtahkaemdgelmdaaDoorBase
import Derived.Test.YtahkaemdgelmdaaDoorNumKit
namespace Go.Proofs.YtahkaemdgelmdaaDoor
open Go.RowKit Go.Lib

set_option maxHeartbeats 400000 in
theorem digitsS_pos (u : Nat) (w : World) (h0 : 0 < u) (h1 : u ≤ 9223372036854775807) :
    Calls Tryd.prog 38 #[.int .i64 u] w fun e w' => e = .returned (.string ⟨(decDigits u).toArray⟩) ∧ Below w.heap.size w w' := by
  have hu : Hid (u ≠ 0) := by show u ≠ 0; omega
  have hne : ((u : Int) == 0) = false := by simp; omega
  have hnn : decide ((u : Int) < 0) = false := by simp
  go_enter Tryd.func38, Tryd.ntmps38
  go_wp2_with fail
  clear hne
  go_loopw [0, 4, 5] (fun n out _ wr => ∃ (v : Nat) (t : ByteArray), t.size + v ≤ u ∧ n = .int .i64 v ∧ out = .string t ∧ Rest u v t ∧ Below w.heap.size w wr)
    (fun n _ _ _ => (RowKit.intOf n).toNat)
  case atStart => exact ⟨u, ⟨#[]⟩, by simp [ByteArray.size], rfl, rfl, Rest.start hu.out, Below.refl _ _⟩
  case round =>
    obtain ⟨v, t, hv, rfl, rfl, hr, hb⟩ := hrel
    by_cases hz : v = 0
    · subst hz
      go_wp2
      go_ret
      exact ⟨ret_str hr.last, hb⟩
    · have hne : ((v : Int) != 0) = true := by simp; omega
      have hcv := run_string_lit1 (P := Tryd.prog) wr 22 9 5 (digB v) (48 + (v : Int) % 10) (digB_nat v) Tryd.underlying22 Tryd.underlying5 Tryd.underlying9
      have hts : ¬ 9223372036854775807 < 1 + t.size := by omega
      go_wp2
      go_roundw
      case rel => exact ⟨v / 10, _, by rw [ByteArray.size_append]; show 1 + t.size + v / 10 ≤ u; omega, rfl, rfl, hr.next hz, hb.alloc hb.size _⟩
      case measure => simp [RowKit.intOf]; omega

theorem digitsS_zero (w : World) :
    Calls Tryd.prog 38 #[.int .i64 0] w fun e w' => e = .returned (.string ⟨(decDigits 0).toArray⟩) ∧ Below w.heap.size w w' := by
  rw [show decDigits 0 = [48] by rw [decDigits]; rfl]
  go_enter Tryd.func38, Tryd.ntmps38
  go_wp2
  go_ret
  exact ⟨rfl, Below.refl _ _⟩
/-- The model's Digits, from 0 on. -/
theorem digitsS_nat (u : Nat) (w : World) (h1 : u ≤ 9223372036854775807) :
    Calls Tryd.prog 38 #[.int .i64 u] w fun e w' => e = .returned (.string ⟨(decDigits u).toArray⟩) ∧ Below w.heap.size w w' := by
  rcases Nat.eq_zero_or_pos u with rfl | h
  · exact digitsS_zero w
  · exact digitsS_pos u w h h1
end Go.Proofs.YtahkaemdgelmdaaDoor
