/- StampOf and StampIn of the program. Nothing here is a claim. -/
import Derived.Test.YtifgaojgnaafbaaStampI
namespace Go.Proofs.Ytifgaojgnaafbaa
open Go.RowKit Go.Lib

set_option maxHeartbeats 2000000 in
theorem stampOfI (clock scale : Int) (sack : Bool) (w : World) : Calls Try.prog 11 #[.int .i64 clock, .int .i64 scale, .bool sack] w fun e w' => e = .returned (.int .i64 (stampOf clock scale sack)) ∧ Below w.heap.size w w' := by
  have C := Lib.hid (hasScaleI scale)
  by_cases h : 0 ≤ scale ∧ scale ≤ 14
  · rw [decide_eq_true h] at C
    cases sack with
    | true =>
      have D := Lib.hid (show 0 + scale % 16 + 1 % 2 * 16 + 1 % 2 * 32 + clock % 67108864 * 64 = stampOf clock scale true by unfold stampOf; rw [if_pos h, if_pos rfl]; omega)
      generalize stampOf clock scale true = z at D ⊢
      go_enter Try.func11, Try.ntmps11
      go_wp2_with fail
      refine (C.out _).mono ?_
      rintro e w1 ⟨rfl, rfl⟩
      go_wp2_with fail
      refine (packerI _).mono ?_
      rintro e w1 ⟨rfl, hF, hG, hb⟩
      have F1 := Lib.hid hF; have G1 := Lib.hid hG; have B1 := Lib.hid hb; clear hF hG hb
      have Q1 := Lib.hid (pack0I scale 0 (by omega) (by omega) w.heap.size w.heap.size (w.heap.size + 1) (Nat.le_refl _) (by omega) (by omega) w1 F1.out G1.out)
      clear F1 G1
      go_wp2_with fail
      refine Q1.out.mono ?_
      rintro e w2 ⟨rfl, hF, hG, hb⟩
      have F2 := Lib.hid hF; have G2 := Lib.hid hG; have B2 := Lib.hid (B1.out.trans hb); clear hF hG hb
      have Q2 := Lib.hid (pack4I 1 (0 + scale % 16) (by omega) (by omega) w.heap.size w.heap.size (w.heap.size + 1) (Nat.le_refl _) (by omega) (by omega) w2 F2.out G2.out)
      clear F2 G2
      go_wp2_with fail
      refine Q2.out.mono ?_
      rintro e w3 ⟨rfl, hF, hG, hb⟩
      have F3 := Lib.hid hF; have G3 := Lib.hid hG; have B3 := Lib.hid (B2.out.trans hb); clear hF hG hb
      have Q3 := Lib.hid (pack5I 1 (0 + scale % 16 + 1 % 2 * 16) (by omega) (by omega) w.heap.size w.heap.size (w.heap.size + 1) (Nat.le_refl _) (by omega) (by omega) w3 F3.out G3.out)
      clear F3 G3
      go_wp2_with fail
      refine Q3.out.mono ?_
      rintro e w4 ⟨rfl, hF, hG, hb⟩
      have F4 := Lib.hid hF; have G4 := Lib.hid hG; have B4 := Lib.hid (B3.out.trans hb); clear hF hG hb
      have Q4 := Lib.hid (pack6I clock (0 + scale % 16 + 1 % 2 * 16 + 1 % 2 * 32) (by omega) (by omega) w.heap.size w.heap.size (w.heap.size + 1) (Nat.le_refl _) (by omega) (by omega) w4 F4.out G4.out)
      clear F4 G4
      go_wp2_with fail
      refine Q4.out.mono ?_
      rintro e w5 ⟨rfl, hF, hG, hb⟩
      have F5 := Lib.hid hF; have G5 := Lib.hid hG; have B5 := Lib.hid (B4.out.trans hb); clear hF hG hb
      go_wp2_with fail
      go_ret
      exact ⟨ret_int (by have hd := D.out; omega), B5.out⟩
    | false =>
      have D := Lib.hid (show 0 + scale % 16 + 0 % 2 * 16 + 1 % 2 * 32 + clock % 67108864 * 64 = stampOf clock scale false by unfold stampOf; rw [if_pos h, if_neg Bool.false_ne_true]; omega)
      generalize stampOf clock scale false = z at D ⊢
      go_enter Try.func11, Try.ntmps11
      go_wp2_with fail
      refine (C.out _).mono ?_
      rintro e w1 ⟨rfl, rfl⟩
      go_wp2_with fail
      refine (packerI _).mono ?_
      rintro e w1 ⟨rfl, hF, hG, hb⟩
      have F1 := Lib.hid hF; have G1 := Lib.hid hG; have B1 := Lib.hid hb; clear hF hG hb
      have Q1 := Lib.hid (pack0I scale 0 (by omega) (by omega) w.heap.size w.heap.size (w.heap.size + 1) (Nat.le_refl _) (by omega) (by omega) w1 F1.out G1.out)
      clear F1 G1
      go_wp2_with fail
      refine Q1.out.mono ?_
      rintro e w2 ⟨rfl, hF, hG, hb⟩
      have F2 := Lib.hid hF; have G2 := Lib.hid hG; have B2 := Lib.hid (B1.out.trans hb); clear hF hG hb
      have Q2 := Lib.hid (pack4I 0 (0 + scale % 16) (by omega) (by omega) w.heap.size w.heap.size (w.heap.size + 1) (Nat.le_refl _) (by omega) (by omega) w2 F2.out G2.out)
      clear F2 G2
      go_wp2_with fail
      refine Q2.out.mono ?_
      rintro e w3 ⟨rfl, hF, hG, hb⟩
      have F3 := Lib.hid hF; have G3 := Lib.hid hG; have B3 := Lib.hid (B2.out.trans hb); clear hF hG hb
      have Q3 := Lib.hid (pack5I 1 (0 + scale % 16 + 0 % 2 * 16) (by omega) (by omega) w.heap.size w.heap.size (w.heap.size + 1) (Nat.le_refl _) (by omega) (by omega) w3 F3.out G3.out)
      clear F3 G3
      go_wp2_with fail
      refine Q3.out.mono ?_
      rintro e w4 ⟨rfl, hF, hG, hb⟩
      have F4 := Lib.hid hF; have G4 := Lib.hid hG; have B4 := Lib.hid (B3.out.trans hb); clear hF hG hb
      have Q4 := Lib.hid (pack6I clock (0 + scale % 16 + 0 % 2 * 16 + 1 % 2 * 32) (by omega) (by omega) w.heap.size w.heap.size (w.heap.size + 1) (Nat.le_refl _) (by omega) (by omega) w4 F4.out G4.out)
      clear F4 G4
      go_wp2_with fail
      refine Q4.out.mono ?_
      rintro e w5 ⟨rfl, hF, hG, hb⟩
      have F5 := Lib.hid hF; have G5 := Lib.hid hG; have B5 := Lib.hid (B4.out.trans hb); clear hF hG hb
      go_wp2_with fail
      go_ret
      exact ⟨ret_int (by have hd := D.out; omega), B5.out⟩
  · rw [decide_eq_false h] at C
    cases sack with
    | true =>
      have D := Lib.hid (show 0 + 15 % 16 + 1 % 2 * 16 + 1 % 2 * 32 + clock % 67108864 * 64 = stampOf clock scale true by unfold stampOf; rw [if_neg h, if_pos rfl]; omega)
      generalize stampOf clock scale true = z at D ⊢
      go_enter Try.func11, Try.ntmps11
      go_wp2_with fail
      refine (C.out _).mono ?_
      rintro e w1 ⟨rfl, rfl⟩
      go_wp2_with fail
      refine (packerI _).mono ?_
      rintro e w1 ⟨rfl, hF, hG, hb⟩
      have F1 := Lib.hid hF; have G1 := Lib.hid hG; have B1 := Lib.hid hb; clear hF hG hb
      have Q1 := Lib.hid (pack0I 15 0 (by omega) (by omega) w.heap.size w.heap.size (w.heap.size + 1) (Nat.le_refl _) (by omega) (by omega) w1 F1.out G1.out)
      clear F1 G1
      go_wp2_with fail
      refine Q1.out.mono ?_
      rintro e w2 ⟨rfl, hF, hG, hb⟩
      have F2 := Lib.hid hF; have G2 := Lib.hid hG; have B2 := Lib.hid (B1.out.trans hb); clear hF hG hb
      have Q2 := Lib.hid (pack4I 1 (0 + 15 % 16) (by omega) (by omega) w.heap.size w.heap.size (w.heap.size + 1) (Nat.le_refl _) (by omega) (by omega) w2 F2.out G2.out)
      clear F2 G2
      go_wp2_with fail
      refine Q2.out.mono ?_
      rintro e w3 ⟨rfl, hF, hG, hb⟩
      have F3 := Lib.hid hF; have G3 := Lib.hid hG; have B3 := Lib.hid (B2.out.trans hb); clear hF hG hb
      have Q3 := Lib.hid (pack5I 1 (0 + 15 % 16 + 1 % 2 * 16) (by omega) (by omega) w.heap.size w.heap.size (w.heap.size + 1) (Nat.le_refl _) (by omega) (by omega) w3 F3.out G3.out)
      clear F3 G3
      go_wp2_with fail
      refine Q3.out.mono ?_
      rintro e w4 ⟨rfl, hF, hG, hb⟩
      have F4 := Lib.hid hF; have G4 := Lib.hid hG; have B4 := Lib.hid (B3.out.trans hb); clear hF hG hb
      have Q4 := Lib.hid (pack6I clock (0 + 15 % 16 + 1 % 2 * 16 + 1 % 2 * 32) (by omega) (by omega) w.heap.size w.heap.size (w.heap.size + 1) (Nat.le_refl _) (by omega) (by omega) w4 F4.out G4.out)
      clear F4 G4
      go_wp2_with fail
      refine Q4.out.mono ?_
      rintro e w5 ⟨rfl, hF, hG, hb⟩
      have F5 := Lib.hid hF; have G5 := Lib.hid hG; have B5 := Lib.hid (B4.out.trans hb); clear hF hG hb
      go_wp2_with fail
      go_ret
      exact ⟨ret_int (by have hd := D.out; omega), B5.out⟩
    | false =>
      have D := Lib.hid (show 0 + 15 % 16 + 0 % 2 * 16 + 1 % 2 * 32 + clock % 67108864 * 64 = stampOf clock scale false by unfold stampOf; rw [if_neg h, if_neg Bool.false_ne_true]; omega)
      generalize stampOf clock scale false = z at D ⊢
      go_enter Try.func11, Try.ntmps11
      go_wp2_with fail
      refine (C.out _).mono ?_
      rintro e w1 ⟨rfl, rfl⟩
      go_wp2_with fail
      refine (packerI _).mono ?_
      rintro e w1 ⟨rfl, hF, hG, hb⟩
      have F1 := Lib.hid hF; have G1 := Lib.hid hG; have B1 := Lib.hid hb; clear hF hG hb
      have Q1 := Lib.hid (pack0I 15 0 (by omega) (by omega) w.heap.size w.heap.size (w.heap.size + 1) (Nat.le_refl _) (by omega) (by omega) w1 F1.out G1.out)
      clear F1 G1
      go_wp2_with fail
      refine Q1.out.mono ?_
      rintro e w2 ⟨rfl, hF, hG, hb⟩
      have F2 := Lib.hid hF; have G2 := Lib.hid hG; have B2 := Lib.hid (B1.out.trans hb); clear hF hG hb
      have Q2 := Lib.hid (pack4I 0 (0 + 15 % 16) (by omega) (by omega) w.heap.size w.heap.size (w.heap.size + 1) (Nat.le_refl _) (by omega) (by omega) w2 F2.out G2.out)
      clear F2 G2
      go_wp2_with fail
      refine Q2.out.mono ?_
      rintro e w3 ⟨rfl, hF, hG, hb⟩
      have F3 := Lib.hid hF; have G3 := Lib.hid hG; have B3 := Lib.hid (B2.out.trans hb); clear hF hG hb
      have Q3 := Lib.hid (pack5I 1 (0 + 15 % 16 + 0 % 2 * 16) (by omega) (by omega) w.heap.size w.heap.size (w.heap.size + 1) (Nat.le_refl _) (by omega) (by omega) w3 F3.out G3.out)
      clear F3 G3
      go_wp2_with fail
      refine Q3.out.mono ?_
      rintro e w4 ⟨rfl, hF, hG, hb⟩
      have F4 := Lib.hid hF; have G4 := Lib.hid hG; have B4 := Lib.hid (B3.out.trans hb); clear hF hG hb
      have Q4 := Lib.hid (pack6I clock (0 + 15 % 16 + 0 % 2 * 16 + 1 % 2 * 32) (by omega) (by omega) w.heap.size w.heap.size (w.heap.size + 1) (Nat.le_refl _) (by omega) (by omega) w4 F4.out G4.out)
      clear F4 G4
      go_wp2_with fail
      refine Q4.out.mono ?_
      rintro e w5 ⟨rfl, hF, hG, hb⟩
      have F5 := Lib.hid hF; have G5 := Lib.hid hG; have B5 := Lib.hid (B4.out.trans hb); clear hF hG hb
      go_wp2_with fail
      go_ret
      exact ⟨ret_int (by have hd := D.out; omega), B5.out⟩
end Go.Proofs.Ytifgaojgnaafbaa
