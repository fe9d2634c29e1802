/- WordSum, SumOf, SumRight, of the model and of the program. -/
import Derived.Test.YtkkimgjcefojdaaFold
import Derived.Test.YtkkimgjcefojdaaKit
namespace Go.Proofs.Ytkkimgjcefojdaa
open Go.RowKit Go.Lib

set_option maxHeartbeats 400000 in
theorem wordSumS (s : ByteArray) (hs : s.size ≤ 1048592) (w : World) :
    Calls Try.prog 45 #[.string s] w fun e w' => e = .returned (.int .i64 (wsum s)) ∧ w = w' := by
  go_enter Try.func45, Try.ntmps45
  go_wp2_with fail
  go_loop [3, 4] (fun x i => ∃ (j q : Nat), i = .int .i64 j ∧ x = .int .i64 q ∧ (j ≤ s.size ∧ j % 2 = 0 ∧ Hid (q = psum s j) ∨ j = s.size + 1 ∧ Hid (q = wsum s)))
    (fun _ i => s.size + 1 - (RowKit.intOf i).toNat)
  case atStart => exact ⟨0, 0, rfl, rfl, .inl ⟨Nat.zero_le _, rfl, (psum_zero s).symm⟩⟩
  case round =>
    obtain ⟨j, q, rfl, rfl, (⟨hj, he, hq⟩ | ⟨rfl, hq⟩)⟩ := hrel
    · have hqb : q ≤ 68452085760 := by rw [hq.out]; exact Nat.le_trans (psum_bd s j) (by omega)
      by_cases hlt : j < s.size
      · have h8 : s[j].toNat < 256 := s[j].toNat_lt
        by_cases hlt2 : j + 1 < s.size
        · have h82 : s[j + 1].toNat < 256 := s[j + 1].toNat_lt
          have E : Hid (q + 256 * s[j].toNat + s[j + 1].toNat = psum s (j + 2)) := by
            show _ = _; rw [psum_odd s (j + 1) hlt2 (by omega), psum_even s j hlt he, hq.out]
          clear hq
          go_wp2_with fail
          go_round
          case rel => exact ⟨j + 2, _, by go_num, by go_num, .inl ⟨by omega, by omega, E⟩⟩
          case measure => simp [RowKit.intOf]; omega
        · have E : Hid (q + 256 * s[j].toNat = wsum s) := by
            show _ = _; rw [← psum_all s, show s.size = j + 1 by omega, psum_even s j hlt he, hq.out]
          clear hq
          go_wp2_with fail
          go_round
          case rel => exact ⟨j + 2, _, by go_num, by go_num, .inr ⟨by omega, E⟩⟩
          case measure => simp [RowKit.intOf]; omega
      · have E : Hid (wsum s = q) := by show _ = _; rw [← psum_all s, show s.size = j by omega, hq.out]
        clear hq
        go_wp2_with fail
        go_ret
        rw [E.out]
        exact ⟨rfl, rfl⟩
    · go_wp2_with fail
      go_ret
      rw [hq.out]
      exact ⟨rfl, rfl⟩

/-- The shift that the program has ahead of byte j. -/
def shf (j : Nat) : Int := if j % 2 = 0 then 8 else 0
theorem shf_cases (j : Nat) : (j % 2 = 0 ∧ shf j = 8 ∧ shf (j + 1) = 0) ∨ (j % 2 = 1 ∧ shf j = 0 ∧ shf (j + 1) = 8) := by
  unfold shf
  rcases Nat.mod_two_eq_zero_or_one j with h | h
  · exact .inl ⟨h, if_pos h, if_neg (by omega)⟩
  · exact .inr ⟨h, if_neg (by omega), if_pos (by omega)⟩

set_option maxHeartbeats 1000000 in
/-- The program's sum over a list of one text. -/
theorem joinedSumI (s : ByteArray) (hs : s.size ≤ 1048592) (r cap : Nat) (w : World) (hc : w.cell? ⟨r, 0, none⟩ = some (.string s)) :
    Calls Try.prog 51 #[.slice (some ⟨r, 0, none⟩) 1 cap] w fun e w' => e = .returned (.int .i64 (wsum s)) ∧ w = w' := by
  go_enter Try.func51, Try.ntmps51
  go_wp2_with fail
  go_loop [3, 4, 10] (fun x h i => (x = .int .i64 0 ∧ h = .int .i64 8 ∧ i = .int .i64 0) ∨ (∃ (q : Nat) (z : Int), x = .int .i64 q ∧ Hid (q = wsum s) ∧ h = .int .i64 z ∧ i = .int .i64 1))
    (fun _ _ i => 1 - (RowKit.intOf i).toNat)
  case atStart => exact .inl ⟨rfl, rfl, rfl⟩
  case round =>
    rcases hrel with ⟨rfl, rfl, rfl⟩ | ⟨q, z, rfl, hq, rfl, rfl⟩
    · go_wp2_with fail
      go_loop [3, 4, 16] (fun x h i => ∃ (j q : Nat), j ≤ s.size ∧ i = .int .i64 j ∧ x = .int .i64 q ∧ h = .int .i64 (shf j) ∧ Hid (q = psum s j))
        (fun _ _ i => s.size - (RowKit.intOf i).toNat)
      case atStart => exact ⟨0, 0, Nat.zero_le _, rfl, rfl, rfl, (psum_zero s).symm⟩
      case round =>
        obtain ⟨j, q, hj, rfl, rfl, rfl, hq⟩ := hrel
        have hqb : q ≤ 68452085760 := by rw [hq.out]; exact Nat.le_trans (psum_bd s j) (by omega)
        by_cases hlt : j < s.size
        · have h8 : s[j].toNat < 256 := s[j].toNat_lt
          rcases shf_cases j with ⟨he, h1, h2⟩ | ⟨he, h1, h2⟩
          · have E : Hid (q + 256 * s[j].toNat = psum s (j + 1)) := by show _ = _; rw [psum_even s j hlt he, hq.out]
            rw [h1]
            have H2 := Lib.hid h2
            clear hq h1 h2
            go_wp2_with fail
            go_round
            case rel => exact ⟨j + 1, _, by omega, by go_num, by go_num, by rw [H2.out], E⟩
            case measure => simp [RowKit.intOf]; omega
          · have E : Hid (q + s[j].toNat = psum s (j + 1)) := by show _ = _; rw [psum_odd s j hlt he, hq.out]
            rw [h1]
            have H2 := Lib.hid h2
            clear hq h1 h2
            go_wp2_with fail
            go_round
            case rel => exact ⟨j + 1, _, by omega, by go_num, by go_num, by rw [H2.out], E⟩
            case measure => simp [RowKit.intOf]; omega
        · have E : Hid (q = wsum s) := by show _ = _; rw [← psum_all s, show s.size = j by omega, hq.out]
          clear hq
          go_wp2_with fail
          go_round
          case rel => exact .inr ⟨q, _, rfl, E, rfl, rfl⟩
          case measure => simp [RowKit.intOf]
    · go_wp2_with fail
      go_ret
      rw [hq.out]
      exact ⟨rfl, rfl⟩
end Go.Proofs.Ytkkimgjcefojdaa
namespace Go.Proofs.Ytkkimgjcefojdaa
open Go.RowKit Go.Lib

set_option maxHeartbeats 400000 in
theorem wordSumI (s : ByteArray) (hs : s.size ≤ 1048592) (w : World) :
    Calls Try.prog 50 #[.string s] w fun e w' => e = .returned (.int .i64 (wsum s)) ∧ Below w.heap.size w w' := by
  go_enter Try.func50, Try.ntmps50
  go_wp2_with fail
  refine (joinedSumI s hs w.heap.size 1 (w.alloc (.cells #[.string s] 9)) (row_at (heap_alloc_new w _) (by simp))).mono ?_
  rintro e w1 ⟨rfl, rfl⟩
  go_wp2_with fail
  go_ret
  exact ⟨rfl, (Below.refl _ _).alloc (Nat.le_refl _) _⟩

theorem wsum_i64 (s : ByteArray) (hs : s.size ≤ 1048592) : (wsum s : Int) ≤ 68452085760 := by
  have := wsum_bd s; omega

set_option maxHeartbeats 400000 in
theorem sumOfS (s : ByteArray) (hs : s.size ≤ 1048592) (w : World) :
    Calls Try.prog 37 #[.string s] w fun e w' => e = .returned (.int .i64 (sumOf s)) ∧ w = w' := by
  have C1 := Lib.hid (wordSumS s hs)
  have C2 := Lib.hid (foldedS (wsum s) (by have := wsum_i64 s hs; omega))
  have hf := foldI_bd (wsum s)
  have E : Hid (sumOf s = 65535 - foldI (wsum s)) := rfl
  obtain ⟨f, hf'⟩ : ∃ f, foldI (wsum s) = f := ⟨_, rfl⟩
  rw [hf'] at C2 E hf
  clear hf'
  rw [E.out]
  go_enter Try.func37, Try.ntmps37
  go_wp2_with fail
  refine (C1.out _).mono ?_
  rintro e w1 ⟨rfl, rfl⟩
  go_wp2_with fail
  refine (C2.out _).mono ?_
  rintro e w1 ⟨rfl, rfl⟩
  go_wp2_with fail
  go_ret
  exact ⟨rfl, rfl⟩

set_option maxHeartbeats 400000 in
theorem sumOfI (s : ByteArray) (hs : s.size ≤ 1048592) (w : World) :
    Calls Try.prog 42 #[.string s] w fun e w' => e = .returned (.int .i64 (sumOf s)) ∧ Below w.heap.size w w' := by
  have C1 := Lib.hid (wordSumI s hs)
  have C2 := Lib.hid (foldedI (wsum s) (by have := wsum_i64 s hs; omega))
  have hf := foldI_bd (wsum s)
  have E : Hid (sumOf s = 65535 - foldI (wsum s)) := rfl
  obtain ⟨f, hf'⟩ : ∃ f, foldI (wsum s) = f := ⟨_, rfl⟩
  rw [hf'] at C2 E hf
  clear hf'
  rw [E.out]
  go_enter Try.func42, Try.ntmps42
  go_wp2_with fail
  refine (C1.out _).mono ?_
  rintro e w1 ⟨rfl, hb1⟩
  go_wp2_with fail
  refine (C2.out _).mono ?_
  rintro e w2 ⟨rfl, rfl⟩
  go_wp2_with fail
  go_ret
  exact ⟨rfl, hb1⟩

end Go.Proofs.Ytkkimgjcefojdaa
namespace Go.Proofs.Ytkkimgjcefojdaa
open Go.RowKit Go.Lib

end Go.Proofs.Ytkkimgjcefojdaa
