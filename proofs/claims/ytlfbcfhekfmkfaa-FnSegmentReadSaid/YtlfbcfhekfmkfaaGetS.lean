/- spec.GetWord -/
import Derived.Test.YtlfbcfhekfmkfaaWordA
import Derived.Test.YtlfbcfhekfmkfaaKit
namespace Go.Proofs.Ytlfbcfhekfmkfaa
open Go.RowKit Go.Lib

set_option maxHeartbeats 400000 in
theorem getWordS (s : ByteArray) (a n : Int) (w : World) (hs : s.size ≤ 1048576) (ha : -9223372036854775808 ≤ a ∧ a ≤ 9223372036854775807) :
    Calls Try.prog 53 #[.string s, .int .i64 a, .int .i64 n] w fun e w' => e = .returned (.tuple #[.int .i64 (getW s a n).1, .bool (getW s a n).2]) ∧ w = w' := by
  obtain ⟨ha1, ha2⟩ := ha
  by_cases h : 1 ≤ n ∧ n ≤ 6
  · have C1 := Lib.hid (fun w => (l1In_any n 1 6 w).mono fun _ _ ⟨a, b⟩ => (⟨a.trans (ret_bool (decide_eq_true h)), b⟩ : _ = Ending.returned (.bool true) ∧ w = _))
    by_cases h2 : 0 ≤ a
    · by_cases h3 : a ≤ s.size - n
      · obtain ⟨hn1, hn2⟩ := h
        obtain ⟨k, rfl⟩ : ∃ k : Nat, n = (k : Int) := ⟨n.toNat, by omega⟩
        obtain ⟨at', rfl⟩ : ∃ k : Nat, a = (k : Int) := ⟨a.toNat, by omega⟩
        rw [getW_yes s at' k (by omega) (by omega)]
        go_enter Try.func53, Try.ntmps53
        go_wp2_with fail
        refine (C1.out _).mono ?_
        rintro e w1 ⟨rfl, rfl⟩
        go_wp2_with fail
        refine ((l1In_yes _ _ _ _ (by omega) (by omega))).mono ?_
        rintro e w1 ⟨rfl, rfl⟩
        go_wp2_with fail
        go_loop [8, 9] (fun x i => ∃ (j q : Nat), j ≤ k ∧ i = .int .i64 j ∧ x = .int .i64 q ∧ Hid (q = gw s at' j))
          (fun _ i => k - (RowKit.intOf i).toNat)
        case atStart => exact ⟨0, 0, Nat.zero_le _, rfl, rfl, rfl⟩
        case round =>
          obtain ⟨j, q, hj, rfl, rfl, hq⟩ := hrel
          by_cases hlt : j < k
          · have hqb : q ≤ 1099511627775 := by rw [hq.out]; exact gw_bd5 s at' j (by omega)
            have hin : at' + j < s.size := by omega
            have h8 : s[at' + j].toNat < 256 := s[at' + j].toNat_lt
            have E : Hid (256 * q + s[at' + j].toNat = gw s at' (j + 1)) := by show _ = _; rw [hq.out, at8_eq s (at' + j) hin]; rfl
            go_wp2_with fail
            go_round
            case rel => exact ⟨j + 1, _, by omega, by go_num, by go_num, E⟩
            case measure => simp [RowKit.intOf]; omega
          · obtain rfl : j = k := by omega
            go_wp2_with fail
            go_ret2
            rw [hq.out]
            exact ⟨rfl, rfl⟩
      · rw [getW_no2 s a n (fun hh => h3 hh.2)]
        obtain ⟨hn1, hn2⟩ := h
        go_enter Try.func53, Try.ntmps53
        go_wp2_with fail
        refine (C1.out _).mono ?_
        rintro e w1 ⟨rfl, rfl⟩
        go_wp2_with fail
        refine (l1In_no _ _ _ _ (by omega)).mono ?_
        rintro e w1 ⟨rfl, rfl⟩
        go_wp2_with fail
        go_ret2
        exact ⟨rfl, rfl⟩
    · rw [getW_no2 s a n (fun hh => h2 hh.1)]
      obtain ⟨hn1, hn2⟩ := h
      go_enter Try.func53, Try.ntmps53
      go_wp2_with fail
      refine (C1.out _).mono ?_
      rintro e w1 ⟨rfl, rfl⟩
      go_wp2_with fail
      refine (l1In_no _ _ _ _ (by omega)).mono ?_
      rintro e w1 ⟨rfl, rfl⟩
      go_wp2_with fail
      go_ret2
      exact ⟨rfl, rfl⟩
  · rw [getW_no s a n h]
    have C1 := Lib.hid (fun w => (l1In_any n 1 6 w).mono fun _ _ ⟨a, b⟩ => (⟨a.trans (ret_bool (decide_eq_false h)), b⟩ : _ = Ending.returned (.bool false) ∧ w = _))
    clear h
    go_enter Try.func53, Try.ntmps53
    go_wp2_with fail
    refine (C1.out _).mono ?_
    rintro e w1 ⟨rfl, rfl⟩
    go_wp2_with fail
    go_ret2
    exact ⟨rfl, rfl⟩
theorem get3S (s : ByteArray) (a n : Nat) (w : World) (hs : s.size ≤ 1048576) (hn : 1 ≤ n ∧ n ≤ 6) (h : a + n ≤ s.size) :
    Calls Try.prog 53 #[.string s, .int .i64 a, .int .i64 n] w fun e w' => e = .returned (.tuple #[.int .i64 (gw s a n : Nat), .bool true]) ∧ w = w' := by
  have := getWordS s a n w hs (by omega)
  rw [getW_yes s a n hn h] at this; exact this
end Go.Proofs.Ytlfbcfhekfmkfaa
