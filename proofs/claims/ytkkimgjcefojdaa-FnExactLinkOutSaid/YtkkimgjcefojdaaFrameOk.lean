/- FrameOk, of the model and of the program. -/
import Derived.Test.YtkkimgjcefojdaaFrameKit
import Derived.Test.YtkkimgjcefojdaaWordA
namespace Go.Proofs.Ytkkimgjcefojdaa
open Go.RowKit Go.Lib

set_option maxHeartbeats 1000000 in
theorem frameOkS (d s t : Int) (b : ByteArray) (w : World) :
    Calls Try.prog 38 #[.agg #[.int .i64 d, .int .i64 s, .int .i64 t, .string b]] w fun e w' => e = .returned (.bool (frameOk d s t b)) ∧ Below w.heap.size w w' := by
  have C1 := Lib.hid (fun w => wordOkS d 48 w)
  have C2 := Lib.hid (fun w => wordOkS s 48 w)
  have C3 := Lib.hid (fun w => l1In_any t 1536 65535 w)
  have D : Hid (frameOk d s t b = (wordOk d 48 && wordOk s 48 && decide (1536 ≤ t ∧ t ≤ 65535) && decide (b.size ≤ 1586))) := rfl
  obtain ⟨p, hp⟩ : ∃ p, wordOk d 48 = p := ⟨_, rfl⟩
  obtain ⟨q, hq⟩ : ∃ q, wordOk s 48 = q := ⟨_, rfl⟩
  obtain ⟨r, hr⟩ : ∃ r, decide (1536 ≤ t ∧ t ≤ 65535) = r := ⟨_, rfl⟩
  rw [hp] at C1 D
  rw [hq] at C2 D
  rw [hr] at C3 D
  rw [D.out]
  clear hp hq hr D
  cases p with
  | false =>
    go_enter Try.func38, Try.ntmps38
    go_wp2_with fail
    refine (C1.out _).mono ?_
    rintro e w1 ⟨rfl, rfl⟩
    go_wp2_with fail
    go_ret
    exact ⟨rfl, (Below.refl _ _).alloc (Nat.le_refl _) _⟩
  | true =>
    cases q with
    | false =>
      go_enter Try.func38, Try.ntmps38
      go_wp2_with fail
      refine (C1.out _).mono ?_
      rintro e w1 ⟨rfl, rfl⟩
      go_wp2_with fail
      refine (C2.out _).mono ?_
      rintro e w1 ⟨rfl, rfl⟩
      go_wp2_with fail
      go_ret
      exact ⟨rfl, (Below.refl _ _).alloc (Nat.le_refl _) _⟩
    | true =>
      cases r with
      | false =>
        go_enter Try.func38, Try.ntmps38
        go_wp2_with fail
        refine (C1.out _).mono ?_
        rintro e w1 ⟨rfl, rfl⟩
        go_wp2_with fail
        refine (C2.out _).mono ?_
        rintro e w1 ⟨rfl, rfl⟩
        go_wp2_with fail
        refine (C3.out _).mono ?_
        rintro e w1 ⟨rfl, rfl⟩
        go_wp2_with fail
        go_ret
        exact ⟨rfl, (Below.refl _ _).alloc (Nat.le_refl _) _⟩
      | true =>
        go_enter Try.func38, Try.ntmps38
        go_wp2_with fail
        refine (C1.out _).mono ?_
        rintro e w1 ⟨rfl, rfl⟩
        go_wp2_with fail
        refine (C2.out _).mono ?_
        rintro e w1 ⟨rfl, rfl⟩
        go_wp2_with fail
        refine (C3.out _).mono ?_
        rintro e w1 ⟨rfl, rfl⟩
        go_wp2_with fail
        go_ret
        exact ⟨ret_bool (by simp only [Bool.true_and]; rw [decide_eq_decide]; omega), (Below.refl _ _).alloc (Nat.le_refl _) _⟩

set_option maxHeartbeats 1000000 in
theorem frameOkI (d s t : Int) (b : ByteArray) (w : World) :
    Calls Try.prog 43 #[.agg #[.int .i64 d, .int .i64 s, .int .i64 t, .string b]] w fun e w' => e = .returned (.bool (frameOk d s t b)) ∧ Below w.heap.size w w' := by
  have C1 := Lib.hid (fun w => wordOkI d 48 w)
  have C2 := Lib.hid (fun w => wordOkI s 48 w)
  have D : Hid (frameOk d s t b = (wordOk d 48 && wordOk s 48 && decide (1536 ≤ t ∧ t ≤ 65535) && decide (b.size ≤ 1586))) := rfl
  obtain ⟨p, hp⟩ : ∃ p, wordOk d 48 = p := ⟨_, rfl⟩
  obtain ⟨q, hq⟩ : ∃ q, wordOk s 48 = q := ⟨_, rfl⟩
  rw [hp] at C1 D
  rw [hq] at C2 D
  rw [D.out]
  clear hp hq D
  cases p with
  | false =>
    go_enter Try.func43, Try.ntmps43
    go_wp2_with fail
    refine (C1.out _).mono ?_
    rintro e w1 ⟨rfl, rfl⟩
    go_wp2_with fail
    go_ret
    exact ⟨rfl, (Below.refl _ _).alloc (Nat.le_refl _) _⟩
  | true =>
    cases q with
    | false =>
      go_enter Try.func43, Try.ntmps43
      go_wp2_with fail
      refine (C1.out _).mono ?_
      rintro e w1 ⟨rfl, rfl⟩
      go_wp2_with fail
      refine (C2.out _).mono ?_
      rintro e w1 ⟨rfl, rfl⟩
      go_wp2_with fail
      go_ret
      exact ⟨rfl, (Below.refl _ _).alloc (Nat.le_refl _) _⟩
    | true =>
      by_cases h : 1536 ≤ t
      · have C3 := Lib.hid (fun w => wordOkI t 16 w)
        rw [type_word t h] at C3
        obtain ⟨r, hr⟩ : ∃ r, decide (1536 ≤ t ∧ t ≤ 65535) = r := ⟨_, rfl⟩
        rw [hr] at C3
        rw [hr]
        clear hr
        cases r with
        | false =>
          go_enter Try.func43, Try.ntmps43
          go_wp2_with fail
          refine (C1.out _).mono ?_
          rintro e w1 ⟨rfl, rfl⟩
          go_wp2_with fail
          refine (C2.out _).mono ?_
          rintro e w1 ⟨rfl, rfl⟩
          go_wp2_with fail
          refine (C3.out _).mono ?_
          rintro e w1 ⟨rfl, rfl⟩
          go_wp2_with fail
          go_ret
          exact ⟨rfl, (Below.refl _ _).alloc (Nat.le_refl _) _⟩
        | true =>
          go_enter Try.func43, Try.ntmps43
          go_wp2_with fail
          refine (C1.out _).mono ?_
          rintro e w1 ⟨rfl, rfl⟩
          go_wp2_with fail
          refine (C2.out _).mono ?_
          rintro e w1 ⟨rfl, rfl⟩
          go_wp2_with fail
          refine (C3.out _).mono ?_
          rintro e w1 ⟨rfl, rfl⟩
          go_wp2_with fail
          go_ret
          exact ⟨ret_bool (by simp only [Bool.true_and]; rw [decide_eq_decide]; omega), (Below.refl _ _).alloc (Nat.le_refl _) _⟩
      · rw [decide_eq_false (show ¬ (1536 ≤ t ∧ t ≤ 65535) by omega)]
        go_enter Try.func43, Try.ntmps43
        go_wp2_with fail
        refine (C1.out _).mono ?_
        rintro e w1 ⟨rfl, rfl⟩
        go_wp2_with fail
        refine (C2.out _).mono ?_
        rintro e w1 ⟨rfl, rfl⟩
        go_wp2_with fail
        go_ret
        exact ⟨rfl, (Below.refl _ _).alloc (Nat.le_refl _) _⟩
end Go.Proofs.Ytkkimgjcefojdaa
