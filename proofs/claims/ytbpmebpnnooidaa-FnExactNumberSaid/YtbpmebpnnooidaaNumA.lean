import Derived.Test.YtbpmebpnnooidaaHexA
import Derived.Test.YtbpmebpnnooidaaNumKit
namespace Go.Proofs.Ytbpmebpnnooidaa
open Go.RowKit Go.Lib

theorem run_string_lit1 {P : Program} (w : World) (src dst e : TypeId) (c : UInt8) (x : Int) (hx : x = (c.toNat : Int)) (hs : P.underlying src = some (.slice e)) (he : P.underlying e = some (.int .u8)) (hd : P.underlying dst = some .string) :
    (convert src dst (.slice (some ⟨w.heap.size, 0, none⟩) 1 1)).run P (w.alloc (.cells #[.int .u8 x] e)) = .ok (.string ⟨#[c]⟩) (w.alloc (.cells #[.int .u8 x] e)) := by
  subst hx
  exact run_string_own (l := [c]) hs he hd (World.ownsRow_lit w #[.int .u8 c.toNat] 1 (Nat.zero_le _) (by simp [maxLen]) rfl)

set_option maxHeartbeats 400000 in
theorem digitsS_pos (u : Nat) (w : World) (h0 : 0 < u) (h1 : u ≤ 9223372036854775807) :
    Calls Try.prog 18 #[.int .i64 u] w fun e w' => e = .returned (.string ⟨(decDigits u).toArray⟩) ∧ Below w.heap.size w w' := by
  have hu : Hid (u ≠ 0) := by show u ≠ 0; omega
  have hne : ((u : Int) == 0) = false := by simp; omega
  have hnn : decide ((u : Int) < 0) = false := by simp
  go_enter Try.func18, Try.ntmps18
  go_wp2_with fail
  clear hne
  go_loopw [0, 4, 5] (fun n out _ wr => ∃ (v : Nat) (t : ByteArray), t.size + v ≤ u ∧ n = .int .i64 v ∧ out = .string t ∧ Rest u v t ∧ Below w.heap.size w wr)
    (fun n _ _ _ => (RowKit.intOf n).toNat)
  case atStart => exact ⟨u, ⟨#[]⟩, by simp [ByteArray.size], rfl, rfl, Rest.start hu.out, Below.refl _ _⟩
  case round =>
    obtain ⟨v, t, hv, rfl, rfl, hr, hb⟩ := hrel
    by_cases hz : v = 0
    · subst hz
      go_wp2
      go_ret
      exact ⟨ret_str hr.last, hb⟩
    · have hne : ((v : Int) != 0) = true := by simp; omega
      have hcv := run_string_lit1 (P := Try.prog) wr 36 9 5 (digB v) (48 + (v : Int) % 10) (digB_nat v) Try.underlying36 Try.underlying5 Try.underlying9
      have hts : ¬ 9223372036854775807 < 1 + t.size := by omega
      go_wp2
      go_roundw
      case rel => exact ⟨v / 10, _, by rw [ByteArray.size_append]; show 1 + t.size + v / 10 ≤ u; omega, rfl, rfl, hr.next hz, hb.alloc hb.size _⟩
      case measure => simp [RowKit.intOf]; omega

theorem digitsS_zero (w : World) :
    Calls Try.prog 18 #[.int .i64 0] w fun e w' => e = .returned (.string ⟨(decDigits 0).toArray⟩) ∧ Below w.heap.size w w' := by
  rw [show decDigits 0 = [48] by rw [decDigits]; rfl]
  go_enter Try.func18, Try.ntmps18
  go_wp2
  go_ret
  exact ⟨rfl, Below.refl _ _⟩
/-- The model's Digits, from 0 on. -/
theorem digitsS_nat (u : Nat) (w : World) (h1 : u ≤ 9223372036854775807) :
    Calls Try.prog 18 #[.int .i64 u] w fun e w' => e = .returned (.string ⟨(decDigits u).toArray⟩) ∧ Below w.heap.size w w' := by
  rcases Nat.eq_zero_or_pos u with rfl | h
  · exact digitsS_zero w
  · exact digitsS_pos u w h h1
end Go.Proofs.Ytbpmebpnnooidaa
