/- PseudoHead, of the model and of the program. -/
import Derived.Test.YtlfbcfhekfmkfaaPutI
import Derived.Test.YtlfbcfhekfmkfaaPutS
namespace Go.Proofs.Ytlfbcfhekfmkfaa
open Go.RowKit Go.Lib

/-- What PseudoHead answers. -/
def pseudo (a b n : ByteArray) : ByteArray := if a = ⟨#[]⟩ ∨ b = ⟨#[]⟩ ∨ n = ⟨#[]⟩ then ⟨#[]⟩ else a ++ b ++ ⟨#[0, 6]⟩ ++ n

theorem empty_no {t : ByteArray} (h : t ≠ ⟨#[]⟩) : t.toList.isEmpty = false := by
  rw [ByteArray.toList_eq]
  cases hl : t.data.toList with
  | nil => exact absurd (by apply ByteArray.ext; apply Array.toList_inj.1; exact hl) h
  | cons _ _ => rfl

set_option maxHeartbeats 1000000 in
theorem pseudoHeadS (x y z : Int) (w : World) :
    Calls Try.prog 39 #[.int .i64 x, .int .i64 y, .int .i64 z] w fun e w' => e = .returned (.string (pseudo (putW x 4) (putW y 4) (putW z 2))) ∧ Below w.heap.size w w' := by
  have C1 := Lib.hid (putWordS x 4)
  have C2 := Lib.hid (putWordS y 4)
  have C3 := Lib.hid (putWordS z 2)
  obtain ⟨a, ha⟩ : ∃ a, putW x 4 = a := ⟨_, rfl⟩
  obtain ⟨b, hb⟩ : ∃ b, putW y 4 = b := ⟨_, rfl⟩
  obtain ⟨n, hn⟩ : ∃ n, putW z 2 = n := ⟨_, rfl⟩
  have za := putW_le x 4
  have zb := putW_le y 4
  have zn := putW_le z 2
  rw [ha] at C1 za
  rw [hb] at C2 zb
  rw [hn] at C3 zn
  rw [ha, hb, hn]
  clear ha hb hn
  go_enter Try.func39, Try.ntmps39
  go_wp2_with fail
  refine (C1.out _).mono ?_
  rintro e w1 ⟨rfl, hb1⟩
  go_wp2_with fail
  refine (C2.out _).mono ?_
  rintro e w2 ⟨rfl, hb2⟩
  go_wp2_with fail
  refine (C3.out _).mono ?_
  rintro e w3 ⟨rfl, hb3⟩
  have B := Lib.hid ((hb1.trans (hb2.mono hb1.size)).trans (hb3.mono (hb1.trans (hb2.mono hb1.size)).size))
  clear hb1 hb2 hb3
  by_cases ha : a = ⟨#[]⟩
  · subst ha
    go_wp2_with fail
    go_ret
    exact ⟨by simp [pseudo], B.out⟩
  · have ea := empty_no ha
    by_cases hb : b = ⟨#[]⟩
    · subst hb
      go_wp2_with fail
      go_ret
      exact ⟨by simp [pseudo], B.out⟩
    · have eb := empty_no hb
      by_cases hn : n = ⟨#[]⟩
      · subst hn
        go_wp2_with fail
        go_ret
        exact ⟨by simp [pseudo], B.out⟩
      · have en := empty_no hn
        have E : Hid (pseudo a b n = a ++ b ++ ⟨#[0, 6]⟩ ++ n) := by show _ = _; unfold pseudo; rw [if_neg (by simp [ha, hb, hn])]
        clear ha hb hn
        go_wp2_with fail
        go_ret
        rw [E.out]
        exact ⟨rfl, B.out⟩

set_option maxHeartbeats 1000000 in
theorem pseudoHeadI (x y z : Int) (w : World) :
    Calls Try.prog 34 #[.int .i64 x, .int .i64 y, .int .i64 z] w fun e w' => e = .returned (.string (pseudo (putW x 4) (putW y 4) (putW z 2))) ∧ Below w.heap.size w w' := by
  have C1 := Lib.hid (putWordI x 4)
  have C2 := Lib.hid (putWordI y 4)
  have C3 := Lib.hid (putWordI z 2)
  obtain ⟨a, ha⟩ : ∃ a, putW x 4 = a := ⟨_, rfl⟩
  obtain ⟨b, hb⟩ : ∃ b, putW y 4 = b := ⟨_, rfl⟩
  obtain ⟨n, hn⟩ : ∃ n, putW z 2 = n := ⟨_, rfl⟩
  have za := putW_le x 4
  have zb := putW_le y 4
  have zn := putW_le z 2
  rw [ha] at C1 za
  rw [hb] at C2 zb
  rw [hn] at C3 zn
  rw [ha, hb, hn]
  clear ha hb hn
  go_enter Try.func34, Try.ntmps34
  go_wp2_with fail
  refine (C1.out _).mono ?_
  rintro e w1 ⟨rfl, hb1⟩
  go_wp2_with fail
  refine (C2.out _).mono ?_
  rintro e w2 ⟨rfl, hb2⟩
  go_wp2_with fail
  refine (C3.out _).mono ?_
  rintro e w3 ⟨rfl, hb3⟩
  have B := Lib.hid ((hb1.trans (hb2.mono hb1.size)).trans (hb3.mono (hb1.trans (hb2.mono hb1.size)).size))
  clear hb1 hb2 hb3
  by_cases ha : a = ⟨#[]⟩
  · subst ha
    go_wp2_with fail
    go_ret
    exact ⟨by simp [pseudo], B.out⟩
  · have ea := empty_no ha
    by_cases hb : b = ⟨#[]⟩
    · subst hb
      go_wp2_with fail
      go_ret
      exact ⟨by simp [pseudo], B.out⟩
    · have eb := empty_no hb
      by_cases hn : n = ⟨#[]⟩
      · subst hn
        go_wp2_with fail
        go_ret
        exact ⟨by simp [pseudo], B.out⟩
      · have en := empty_no hn
        have E : Hid (pseudo a b n = a ++ b ++ ⟨#[0, 6]⟩ ++ n) := by show _ = _; unfold pseudo; rw [if_neg (by simp [ha, hb, hn])]
        clear ha hb hn
        go_wp2_with fail
        go_ret
        rw [E.out]
        exact ⟨rfl, B.out⟩
end Go.Proofs.Ytlfbcfhekfmkfaa
