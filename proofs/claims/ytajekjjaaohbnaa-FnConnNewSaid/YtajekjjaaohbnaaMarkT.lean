/- The laws' own markText. Nothing here is a claim. -/
import Derived.Test.YtajekjjaaohbnaaBase
import Derived.Test.YtajekjjaaohbnaaNumKit
import Derived.Test.YtajekjjaaohbnaaCurKit
namespace Go.Proofs.Ytajekjjaaohbnaa
open Go.RowKit Go.Lib

/-- The mark of number u. -/
def markB (u : Nat) : ByteArray := ⟨#[109]⟩ ++ ⟨(decDigits u).toArray⟩

set_option maxHeartbeats 400000 in
theorem markText_any (u : Nat) (w : World) (h0 : 0 < u) (h1 : u ≤ 4000000000) :
    Calls Try.prog 99 #[.int .i64 u] w fun e w' => e = .returned (.string (markB u)) ∧ Below w.heap.size w w' := by
  have hu : Hid (u ≠ 0) := by show u ≠ 0; omega
  go_enter Try.func99, Try.ntmps99
  go_wp2_with fail
  go_loopw [0, 3] (fun n out wr => ∃ (v : Nat) (t : ByteArray), t.size + v ≤ u ∧ n = .int .i64 v ∧ out = .string t ∧ Rest u v t ∧ Below w.heap.size w wr)
    (fun n _ _ => (RowKit.intOf n).toNat)
  case atStart => exact ⟨u, ⟨#[]⟩, by simp [ByteArray.size], rfl, rfl, Rest.start hu.out, Below.refl _ _⟩
  case round =>
    obtain ⟨v, t, hv, rfl, rfl, hr, hb⟩ := hrel
    have hts : ¬ 9223372036854775807 < 1 + t.size := by omega
    by_cases hz : v = 0
    · subst hz
      go_wp2_with fail
      go_ret
      exact ⟨ret_str (by rw [hr.last]; rfl), hb⟩
    · have hpos : 0 < v := by omega
      have hcv := run_string_lit1 (P := Try.prog) wr 22 9 5 (digB v) (48 + (v : Int) % 10) (digB_nat v) Try.underlying22 Try.underlying5 Try.underlying9
      go_wp2_with fail
      go_roundw
      case rel => exact ⟨v / 10, _, by rw [ByteArray.size_append]; show 1 + t.size + v / 10 ≤ u; omega, rfl, rfl, hr.next hz, hb.alloc hb.size _⟩
      case measure => simp [RowKit.intOf]; omega
end Go.Proofs.Ytajekjjaaohbnaa
