/- spec.l1In, spec.WordOk, impl.WordOk, impl.sizeOk -/
import Derived.Test.YtpbnkkgfjmkcdaaBase
import Derived.Test.YtpbnkkgfjmkcdaaKit
import Derived.Test.YtpbnkkgfjmkcdaaL1In
namespace Go.Proofs.Ytpbnkkgfjmkcdaa
open Go.RowKit Go.Lib

set_option maxHeartbeats 400000 in
theorem wordOkS (n b : Int) (w : World) :
    Calls Try.prog 48 #[.int .i64 n, .int .i64 b] w fun e w' => e = .returned (.bool (wordOk n b)) ∧ w = w' := by
  by_cases h : 1 ≤ b ∧ b ≤ 62
  · obtain ⟨h1, h2⟩ := h
    obtain ⟨k, rfl⟩ : ∃ k : Nat, b = (k : Int) := ⟨b.toNat, by omega⟩
    have hp := pow_pos2 k
    have hq := pow_le62 k (by omega)
    have hm : min k 64 = k := by omega
    have C1 := Lib.hid (fun w => l1In_yes k 1 62 w h1 h2)
    have C2 := Lib.hid (fun w => l1In_any n 0 (2 ^ k - 1) w)
    have D : Hid (wordOk n k = (decide (0 ≤ n) && decide (n ≤ 2 ^ k - 1))) := by
      show _ = _
      rw [← Bool.decide_and]; unfold wordOk; rw [decide_eq_decide, Int.toNat_natCast]; omega
    go_enter Try.func48, Try.ntmps48
    go_wp2_with fail
    refine (C1.out _).mono ?_
    rintro e w1 ⟨rfl, rfl⟩
    go_wp2_with fail
    refine (C2.out _).mono ?_
    rintro e w1 ⟨rfl, rfl⟩
    go_wp2_with fail
    go_ret
    exact ⟨ret_bool D.out.symm, rfl⟩
  · have C := Lib.hid (l1In_no b 1 62 w h)
    have D : Hid (wordOk n b = false) := by show _ = _; unfold wordOk; exact decide_eq_false (fun hh => h hh.1)
    clear h
    go_enter Try.func48, Try.ntmps48
    go_wp2_with fail
    refine C.out.mono ?_
    rintro e w1 ⟨rfl, rfl⟩
    go_wp2_with fail
    go_ret
    exact ⟨ret_bool D.out.symm, rfl⟩

set_option maxHeartbeats 400000 in
theorem wordOkI (n b : Int) (w : World) :
    Calls Try.prog 46 #[.int .i64 n, .int .i64 b] w fun e w' => e = .returned (.bool (wordOk n b)) ∧ w = w' := by
  by_cases h1 : 1 ≤ b
  · by_cases h2 : b ≤ 62
    · obtain ⟨k, rfl⟩ : ∃ k : Nat, b = (k : Int) := ⟨b.toNat, by omega⟩
      have hm : min k 64 = k := by omega
      by_cases h3 : 0 ≤ n
      · have D : Hid (wordOk n k = (n / 2 ^ k == 0)) := by
          show _ = _
          have e := div_zero_iff n k h3
          unfold wordOk
          rw [Int.toNat_natCast]
          by_cases hz : n < 2 ^ k
          · rw [e.2 hz]; simp [h1, h2, h3, hz]
          · have : ¬ n / 2 ^ k = 0 := fun x => hz (e.1 x)
            simp [hz, this]
        go_enter Try.func46, Try.ntmps46
        go_wp2_with fail
        go_ret
        exact ⟨ret_bool D.out.symm, rfl⟩
      · have D : Hid (wordOk n k = false) := by show _ = _; unfold wordOk; exact decide_eq_false (fun hh => h3 hh.2.1)
        go_enter Try.func46, Try.ntmps46
        go_wp2_with fail
        go_ret
        exact ⟨ret_bool D.out.symm, rfl⟩
    · have D : Hid (wordOk n b = false) := by show _ = _; unfold wordOk; exact decide_eq_false (fun hh => h2 hh.1.2)
      go_enter Try.func46, Try.ntmps46
      go_wp2_with fail
      go_ret
      exact ⟨ret_bool D.out.symm, rfl⟩
  · have D : Hid (wordOk n b = false) := by show _ = _; unfold wordOk; exact decide_eq_false (fun hh => h1 hh.1.1)
    go_enter Try.func46, Try.ntmps46
    go_wp2_with fail
    go_ret
    exact ⟨ret_bool D.out.symm, rfl⟩

end Go.Proofs.Ytpbnkkgfjmkcdaa
