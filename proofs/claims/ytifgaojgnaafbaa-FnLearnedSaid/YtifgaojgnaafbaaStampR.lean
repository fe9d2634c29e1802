/- StampIn of the program. Nothing here is a claim. -/
import Derived.Test.YtifgaojgnaafbaaStampI
namespace Go.Proofs.Ytifgaojgnaafbaa
open Go.RowKit Go.Lib

/-- What StampIn answers. -/
def stampAns (v : Int) : Value := .tuple (if stampIs v then #[.int .i64 (stampScale v), .bool (stampSack v), .bool true] else #[.int .i64 (-1), .bool false, .bool false])
theorem stampAns_no {v : Int} (h : stampIs v = false) : stampAns v = .tuple #[.int .i64 (-1), .bool false, .bool false] := by
  unfold stampAns; rw [h]; rfl
theorem stampAns_yes {v : Int} (h : stampIs v = true) : stampAns v = .tuple #[.int .i64 (stampScale v), .bool (stampSack v), .bool true] := by
  unfold stampAns; rw [h]; rfl

set_option maxHeartbeats 2000000 in
theorem stampInI (v : Int) (w : World) : Calls Try.prog 14 #[.int .i64 v] w fun e w' => e = .returned (stampAns v) ∧ Below w.heap.size w w' := by
  have C := Lib.hid (wordOkI v 32)
  obtain ⟨a, ha⟩ : ∃ a : Int, v % 16 = a := ⟨_, rfl⟩
  obtain ⟨b, hb⟩ : ∃ b : Int, v / 16 % 2 = b := ⟨_, rfl⟩
  obtain ⟨t, ht⟩ : ∃ t : Int, v / 16 / 2 % 2 = t := ⟨_, rfl⟩
  obtain ⟨k, hk⟩ : ∃ k : Bool, wordOk v 32 = k := ⟨_, rfl⟩
  obtain ⟨z, hz⟩ : ∃ z : Value, stampAns v = z := ⟨_, rfl⟩
  rw [hk] at C
  rw [hz]
  have ht2 : t = 0 ∨ t = 1 := by omega
  have hI : stampIs v = (k && decide (t = 1)) := by unfold stampIs; rw [hk, show v / 32 % 2 = t by omega]
  have ha := Lib.hid ha
  have hB := Lib.hid hb
  clear hb
  have ht := Lib.hid ht
  rcases ht2 with rfl | rfl
  · have hz := Lib.hid (hz.symm.trans (stampAns_no (by rw [hI]; simp)))
    clear hI hk
    go_enter Try.func14, Try.ntmps14
    go_wp2_with fail
    refine (readerI _ _).mono ?_
    rintro e w1 ⟨rfl, hF, hb⟩
    have F1 := Lib.hid hF; have B1 := Lib.hid hb; clear hF hb
    have Q1 := Lib.hid (read4I v w.heap.size w.heap.size (Nat.le_refl _) w1 F1.out)
    rw [ha.out] at Q1
    clear F1
    go_wp2_with fail
    refine Q1.out.mono ?_
    rintro e w2 ⟨rfl, hF, hb⟩
    have F2 := Lib.hid hF; have B2 := Lib.hid (B1.out.trans hb); clear hF hb
    have Q2 := Lib.hid (read1I (v / 16) w.heap.size w.heap.size (Nat.le_refl _) w2 F2.out)
    rw [hB.out] at Q2
    clear F2
    go_wp2_with fail
    refine Q2.out.mono ?_
    rintro e w3 ⟨rfl, hF, hb⟩
    have F3 := Lib.hid hF; have B3 := Lib.hid (B2.out.trans hb); clear hF hb
    have Q3 := Lib.hid (read1I (v / 16 / 2) w.heap.size w.heap.size (Nat.le_refl _) w3 F3.out)
    rw [ht.out] at Q3
    clear F3
    go_wp2_with fail
    refine Q3.out.mono ?_
    rintro e w4 ⟨rfl, hF, hb⟩
    have B4 := Lib.hid (B3.out.trans hb); clear hF hb
    go_wp2_with fail
    exact bodyPost_ret (v := .tuple #[.int .i64 (-1), .bool false, .bool false]) (by simp [results, Try.results14, go_sem]) rfl ⟨by rw [hz.out], B4.out⟩
  · cases k with
    | false =>
      have hz := Lib.hid (hz.symm.trans (stampAns_no (by rw [hI]; rfl)))
      clear hI hk
      go_enter Try.func14, Try.ntmps14
      go_wp2_with fail
      refine (readerI _ _).mono ?_
      rintro e w1 ⟨rfl, hF, hb⟩
      have F1 := Lib.hid hF; have B1 := Lib.hid hb; clear hF hb
      have Q1 := Lib.hid (read4I v w.heap.size w.heap.size (Nat.le_refl _) w1 F1.out)
      rw [ha.out] at Q1
      clear F1
      go_wp2_with fail
      refine Q1.out.mono ?_
      rintro e w2 ⟨rfl, hF, hb⟩
      have F2 := Lib.hid hF; have B2 := Lib.hid (B1.out.trans hb); clear hF hb
      have Q2 := Lib.hid (read1I (v / 16) w.heap.size w.heap.size (Nat.le_refl _) w2 F2.out)
      rw [hB.out] at Q2
      clear F2
      go_wp2_with fail
      refine Q2.out.mono ?_
      rintro e w3 ⟨rfl, hF, hb⟩
      have F3 := Lib.hid hF; have B3 := Lib.hid (B2.out.trans hb); clear hF hb
      have Q3 := Lib.hid (read1I (v / 16 / 2) w.heap.size w.heap.size (Nat.le_refl _) w3 F3.out)
      rw [ht.out] at Q3
      clear F3
      go_wp2_with fail
      refine Q3.out.mono ?_
      rintro e w4 ⟨rfl, hF, hb⟩
      have B4 := Lib.hid (B3.out.trans hb); clear hF hb
      go_wp2_with fail
      refine (C.out _).mono ?_
      rintro e w5 ⟨rfl, rfl⟩
      go_wp2_with fail
      exact bodyPost_ret (v := .tuple #[.int .i64 (-1), .bool false, .bool false]) (by simp [results, Try.results14, go_sem]) rfl ⟨by rw [hz.out], B4.out⟩
    | true =>
      have hz := hz.symm.trans (stampAns_yes (by rw [hI]; rfl))
      clear hI hk
      have hS : stampSack v = (b == 1) := by unfold stampSack; rw [hB.out]; rfl
      rw [hS] at hz
      clear hS
      by_cases h15 : a = 15
      · have hz := Lib.hid (hz.trans (by rw [show stampScale v = -1 from if_pos (by rw [ha.out]; exact h15)]))
        subst h15
        go_enter Try.func14, Try.ntmps14
        go_wp2_with fail
        refine (readerI _ _).mono ?_
        rintro e w1 ⟨rfl, hF, hb⟩
        have F1 := Lib.hid hF; have B1 := Lib.hid hb; clear hF hb
        have Q1 := Lib.hid (read4I v w.heap.size w.heap.size (Nat.le_refl _) w1 F1.out)
        rw [ha.out] at Q1
        clear F1
        go_wp2_with fail
        refine Q1.out.mono ?_
        rintro e w2 ⟨rfl, hF, hb⟩
        have F2 := Lib.hid hF; have B2 := Lib.hid (B1.out.trans hb); clear hF hb
        have Q2 := Lib.hid (read1I (v / 16) w.heap.size w.heap.size (Nat.le_refl _) w2 F2.out)
        rw [hB.out] at Q2
        clear F2
        go_wp2_with fail
        refine Q2.out.mono ?_
        rintro e w3 ⟨rfl, hF, hb⟩
        have F3 := Lib.hid hF; have B3 := Lib.hid (B2.out.trans hb); clear hF hb
        have Q3 := Lib.hid (read1I (v / 16 / 2) w.heap.size w.heap.size (Nat.le_refl _) w3 F3.out)
        rw [ht.out] at Q3
        clear F3
        go_wp2_with fail
        refine Q3.out.mono ?_
        rintro e w4 ⟨rfl, hF, hb⟩
        have B4 := Lib.hid (B3.out.trans hb); clear hF hb
        go_wp2_with fail
        refine (C.out _).mono ?_
        rintro e w5 ⟨rfl, rfl⟩
        go_wp2_with fail
        exact bodyPost_ret (v := .tuple #[.int .i64 (-1), .bool (b == 1), .bool true]) (by simp [results, Try.results14, go_sem]) rfl ⟨by rw [hz.out], B4.out⟩
      · have hz := Lib.hid (hz.trans (by rw [show stampScale v = a from (if_neg (by rw [ha.out]; exact h15)).trans ha.out]))
        have h15' : (a == 15) = false := by simp [h15]
        clear h15
        go_enter Try.func14, Try.ntmps14
        go_wp2_with fail
        refine (readerI _ _).mono ?_
        rintro e w1 ⟨rfl, hF, hb⟩
        have F1 := Lib.hid hF; have B1 := Lib.hid hb; clear hF hb
        have Q1 := Lib.hid (read4I v w.heap.size w.heap.size (Nat.le_refl _) w1 F1.out)
        rw [ha.out] at Q1
        clear F1
        go_wp2_with fail
        refine Q1.out.mono ?_
        rintro e w2 ⟨rfl, hF, hb⟩
        have F2 := Lib.hid hF; have B2 := Lib.hid (B1.out.trans hb); clear hF hb
        have Q2 := Lib.hid (read1I (v / 16) w.heap.size w.heap.size (Nat.le_refl _) w2 F2.out)
        rw [hB.out] at Q2
        clear F2
        go_wp2_with fail
        refine Q2.out.mono ?_
        rintro e w3 ⟨rfl, hF, hb⟩
        have F3 := Lib.hid hF; have B3 := Lib.hid (B2.out.trans hb); clear hF hb
        have Q3 := Lib.hid (read1I (v / 16 / 2) w.heap.size w.heap.size (Nat.le_refl _) w3 F3.out)
        rw [ht.out] at Q3
        clear F3
        go_wp2_with fail
        refine Q3.out.mono ?_
        rintro e w4 ⟨rfl, hF, hb⟩
        have B4 := Lib.hid (B3.out.trans hb); clear hF hb
        go_wp2_with fail
        refine (C.out _).mono ?_
        rintro e w5 ⟨rfl, rfl⟩
        go_wp2_with fail
        exact bodyPost_ret (v := .tuple #[.int .i64 a, .bool (b == 1), .bool true]) (by simp [results, Try.results14, go_sem]) rfl ⟨by rw [hz.out], B4.out⟩
end Go.Proofs.Ytifgaojgnaafbaa
