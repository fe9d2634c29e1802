/- MssIndex, of the model and of the program. Nothing here is a claim. -/
import Derived.Test.YtifgaojgnaafbaaMss
namespace Go.Proofs.Ytifgaojgnaafbaa
open Go.RowKit Go.Lib Go.Maps

set_option maxRecDepth 100000 in
set_option maxHeartbeats 4000000 in
theorem mssIndexS (m : Int) (w : World) : Calls Try.prog 21 #[.int .i64 m] w fun e w' => e = .returned (.int .i64 (mssTo m 8)) ∧ Below w.heap.size w w' := by
  go_enter Try.func21, Try.ntmps21
  go_wp2_with fail
  go_loopw [3, 4] (fun o i wr => ∃ k : Nat, k ≤ 8 ∧ i = .int .i64 k ∧ o = .int .i64 (mssTo m k) ∧ Hid (Below w.heap.size w wr))
    (fun _ i _ => 8 - (RowKit.intOf i).toNat)
  case atStart => exact ⟨0, Nat.zero_le _, rfl, rfl, Lib.hid (Below.refl _ _)⟩
  case round =>
    obtain ⟨k, hk, rfl, rfl, B⟩ := hrel
    by_cases h8 : k = 8
    · subst h8
      clear hk
      go_wp2_with fail
      go_ret
      exact ⟨rfl, B.out⟩
    · have hlt : k < 8 := by omega
      clear hk h8
      have C := Lib.hid (mssOfS k wr)
      by_cases he : mssAt k ≤ m
      · go_wp2_with fail
        refine C.out.mono ?_
        rintro e w1 ⟨rfl, hb⟩
        have B1 := Lib.hid (B.out.trans (hb.mono B.out.size))
        clear hb
        go_wp2_with fail
        go_roundw
        case rel => exact ⟨k + 1, by omega, by go_num, by rw [mssTo_yes he], B1⟩
        case measure => simp [RowKit.intOf]; omega
      · go_wp2_with fail
        refine C.out.mono ?_
        rintro e w1 ⟨rfl, hb⟩
        have B1 := Lib.hid (B.out.trans (hb.mono B.out.size))
        clear hb
        go_wp2_with fail
        go_roundw
        case rel => exact ⟨k + 1, by omega, by go_num, by rw [mssTo_no (by omega)], B1⟩
        case measure => simp [RowKit.intOf]; omega

end Go.Proofs.Ytifgaojgnaafbaa
