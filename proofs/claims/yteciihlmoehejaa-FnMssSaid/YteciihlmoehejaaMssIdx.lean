/- MssIndex, of the model and of the program. Nothing here is a claim. -/
import Derived.Test.YteciihlmoehejaaMss
namespace Go.Proofs.Yteciihlmoehejaa
open Go.RowKit Go.Lib Go.Maps

set_option maxRecDepth 100000 in
set_option maxHeartbeats 4000000 in
theorem mssIndexS (m : Int) (w : World) : Calls Try.prog 17 #[.int .i64 m] w fun e w' => e = .returned (.int .i64 (mssTo m 8)) ∧ Below w.heap.size w w' := by
  go_enter Try.func17, Try.ntmps17
  go_wp2_with fail
  go_loopw [3, 4] (fun o i wr => ∃ k : Nat, k ≤ 8 ∧ i = .int .i64 k ∧ o = .int .i64 (mssTo m k) ∧ Hid (Below w.heap.size w wr))
    (fun _ i _ => 8 - (RowKit.intOf i).toNat)
  case atStart => exact ⟨0, Nat.zero_le _, rfl, rfl, Lib.hid (Below.refl _ _)⟩
  case round =>
    obtain ⟨k, hk, rfl, rfl, B⟩ := hrel
    by_cases h8 : k = 8
    · subst h8
      clear hk
      go_wp2_with fail
      go_ret
      exact ⟨rfl, B.out⟩
    · have hlt : k < 8 := by omega
      clear hk h8
      have C := Lib.hid (mssOfS k wr)
      by_cases he : mssAt k ≤ m
      · go_wp2_with fail
        refine C.out.mono ?_
        rintro e w1 ⟨rfl, hb⟩
        have B1 := Lib.hid (B.out.trans (hb.mono B.out.size))
        clear hb
        go_wp2_with fail
        go_roundw
        case rel => exact ⟨k + 1, by omega, by go_num, by rw [mssTo_yes he], B1⟩
        case measure => simp [RowKit.intOf]; omega
      · go_wp2_with fail
        refine C.out.mono ?_
        rintro e w1 ⟨rfl, hb⟩
        have B1 := Lib.hid (B.out.trans (hb.mono B.out.size))
        clear hb
        go_wp2_with fail
        go_roundw
        case rel => exact ⟨k + 1, by omega, by go_num, by rw [mssTo_no (by omega)], B1⟩
        case measure => simp [RowKit.intOf]; omega

set_option maxRecDepth 100000 in
set_option maxHeartbeats 4000000 in
theorem mssIndexI (m : Int) (w : World) : Calls Try.prog 16 #[.int .i64 m] w fun e w' => e = .returned (.int .i64 (mssTo m 8)) ∧ Below w.heap.size w w' := by
  go_enter Try.func16, Try.ntmps16
  go_wp2_with fail
  refine (sizesI _).mono ?_
  rintro e w1 ⟨rfl, o1⟩
  have O := Lib.hid o1
  clear o1
  go_wp2_with fail
  go_loopw [4] (fun i wr => ∃ k : Nat, k ≤ 7 ∧ i = .int .i64 k ∧ Hid (mssTo m 8 = mssTo m (k + 1)) ∧ wr = w1)
    (fun i _ => (RowKit.intOf i).toNat)
  case atStart => exact ⟨7, Nat.le_refl _, rfl, rfl, rfl⟩
  case round =>
    obtain ⟨k, hk, rfl, E, rfl⟩ := hrel
    by_cases h0 : k = 0
    · subst h0
      clear hk
      go_wp2_with fail
      go_ret
      rw [E.out, mssTo_one]
      exact ⟨rfl, O.out.2⟩
    · have hlt : 0 < k := by omega
      have hwk : (Lit.int .i64 (k : Int)).wf = true := by
        have h7 : k = 1 ∨ k = 2 ∨ k = 3 ∨ k = 4 ∨ k = 5 ∨ k = 6 ∨ k = 7 := by omega
        rcases h7 with rfl | rfl | rfl | rfl | rfl | rfl | rfl <;> decide
      by_cases he : mssAt k ≤ m
      · go_wp2_with (first | (at_lookup; refine wpList_lookup_own_int _ rfl _ _ 60 rfl 3 3 .i64 (int_keyed Try.underlying3) Try.underlying60 Try.underlying3 (zeroI _) w.heap.size 8 sizesD rfl O.out.1 _ _ rfl (int_key hwk) ?_; intro c hat hwc; obtain rfl := size_of hat; clear hat) | go_in)
        go_ret
        rw [E.out, mssTo_yes he]
        exact ⟨rfl, O.out.2⟩
      · go_wp2_with (first | (at_lookup; refine wpList_lookup_own_int _ rfl _ _ 60 rfl 3 3 .i64 (int_keyed Try.underlying3) Try.underlying60 Try.underlying3 (zeroI _) w.heap.size 8 sizesD rfl O.out.1 _ _ rfl (int_key hwk) ?_; intro c hat hwc; obtain rfl := size_of hat; clear hat) | go_in)
        go_roundw
        case rel => exact ⟨k - 1, by omega, by go_num, Lib.hid (by rw [E.out, mssTo_no he, show k - 1 + 1 = k by omega]), trivial⟩
        case measure => simp [RowKit.intOf]; omega
end Go.Proofs.Yteciihlmoehejaa
