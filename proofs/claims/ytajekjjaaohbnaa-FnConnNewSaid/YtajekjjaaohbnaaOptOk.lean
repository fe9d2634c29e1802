/- OptionsOk and NoOptions, of the model and of the program. -/
import Derived.Test.YtajekjjaaohbnaaBase
import Derived.Test.YtajekjjaaohbnaaKit
namespace Go.Proofs.Ytajekjjaaohbnaa
open Go.RowKit Go.Lib

set_option maxHeartbeats 2000000 in
theorem optionsOkI (m c : Int) (k t : Bool) (v e : Int) (w : World) :
    Calls Try.prog 40 #[.agg #[.int .i64 m, .int .i64 c, .bool k, .bool t, .int .i64 v, .int .i64 e]] w fun e' w' => e' = .returned (.bool (optOk ⟨m, c, k, t, v, e⟩)) ∧ Below w.heap.size w w' := by
  have C1 := Lib.hid (wordOkI m 16)
  have C2 := Lib.hid (wordOkI v 32)
  have C3 := Lib.hid (wordOkI e 32)
  have U := Lib.hid (show optOk ⟨m, c, k, t, v, e⟩ = (wordOk m 16 && decide (-1 ≤ c ∧ c ≤ 14) && bif t then wordOk v 32 && wordOk e 32 else decide (v = 0 ∧ e = 0)) from rfl)
  generalize optOk ⟨m, c, k, t, v, e⟩ = z at U ⊢
  generalize wordOk m 16 = x1 at C1 U
  generalize wordOk v 32 = x2 at C2 U
  generalize wordOk e 32 = x3 at C3 U
  cases x1 with
  | false =>
    have D := Lib.hid (show z = false by rw [U.out]; simp)
    clear U
    go_enter Try.func40, Try.ntmps40
    go_wp2_with fail
    refine (C1.out _).mono ?_
    rintro e w1 ⟨rfl, rfl⟩
    go_wp2_with fail
    go_ret
    exact ⟨ret_bool (by rw [D.out]), (Below.refl _ _).alloc (Nat.le_refl _) _⟩
  | true =>
    by_cases h1 : c < -1
    · skip
      have D := Lib.hid (show z = false by rw [U.out, decide_eq_false (show ¬ (-1 ≤ c ∧ c ≤ 14) by omega)]; rfl)
      clear U
      go_enter Try.func40, Try.ntmps40
      go_wp2_with fail
      refine (C1.out _).mono ?_
      rintro e w1 ⟨rfl, rfl⟩
      go_wp2_with fail
      go_ret
      exact ⟨ret_bool (by rw [D.out]), (Below.refl _ _).alloc (Nat.le_refl _) _⟩
    by_cases h2 : 14 < c
    · skip
      have D := Lib.hid (show z = false by rw [U.out, decide_eq_false (show ¬ (-1 ≤ c ∧ c ≤ 14) by omega)]; rfl)
      clear U
      go_enter Try.func40, Try.ntmps40
      go_wp2_with fail
      refine (C1.out _).mono ?_
      rintro e w1 ⟨rfl, rfl⟩
      go_wp2_with fail
      go_ret
      exact ⟨ret_bool (by rw [D.out]), (Below.refl _ _).alloc (Nat.le_refl _) _⟩
    have E := Lib.hid (show decide (-1 ≤ c ∧ c ≤ 14) = true from decide_eq_true (by omega))
    cases t with
    | false =>
      by_cases h3 : v = 0
      · subst h3
        by_cases h4 : e = 0
        · subst h4
          have D := Lib.hid (show z = true by rw [U.out, E.out]; rfl)
          clear U
          go_enter Try.func40, Try.ntmps40
          go_wp2_with fail
          refine (C1.out _).mono ?_
          rintro e w1 ⟨rfl, rfl⟩
          go_wp2_with fail
          go_ret
          exact ⟨ret_bool (by rw [D.out]), (Below.refl _ _).alloc (Nat.le_refl _) _⟩
        · have h4' : (e == 0) = false := by simp [h4]
          have D := Lib.hid (show z = false by rw [U.out, E.out, decide_eq_false (show ¬ ((0 : Int) = 0 ∧ e = 0) by omega)]; rfl)
          clear U
          clear h4
          go_enter Try.func40, Try.ntmps40
          go_wp2_with fail
          refine (C1.out _).mono ?_
          rintro e w1 ⟨rfl, rfl⟩
          go_wp2_with fail
          go_ret
          exact ⟨ret_bool (by rw [D.out]), (Below.refl _ _).alloc (Nat.le_refl _) _⟩
      · have h3' : (v == 0) = false := by simp [h3]
        have D := Lib.hid (show z = false by rw [U.out, E.out, decide_eq_false (show ¬ (v = 0 ∧ e = 0) by omega)]; rfl)
        clear U
        clear h3
        go_enter Try.func40, Try.ntmps40
        go_wp2_with fail
        refine (C1.out _).mono ?_
        rintro e w1 ⟨rfl, rfl⟩
        go_wp2_with fail
        go_ret
        exact ⟨ret_bool (by rw [D.out]), (Below.refl _ _).alloc (Nat.le_refl _) _⟩
    | true =>
      cases x2 with
      | false =>
        have D := Lib.hid (show z = false by rw [U.out, E.out]; rfl)
        clear U
        go_enter Try.func40, Try.ntmps40
        go_wp2_with fail
        refine (C1.out _).mono ?_
        rintro e w1 ⟨rfl, rfl⟩
        go_wp2_with fail
        refine (C2.out _).mono ?_
        rintro e w1 ⟨rfl, rfl⟩
        go_wp2_with fail
        go_ret
        exact ⟨ret_bool (by rw [D.out]), (Below.refl _ _).alloc (Nat.le_refl _) _⟩
      | true =>
        have D := Lib.hid (show z = x3 by rw [U.out, E.out]; simp)
        clear U
        go_enter Try.func40, Try.ntmps40
        go_wp2_with fail
        refine (C1.out _).mono ?_
        rintro e w1 ⟨rfl, rfl⟩
        go_wp2_with fail
        refine (C2.out _).mono ?_
        rintro e w1 ⟨rfl, rfl⟩
        go_wp2_with fail
        refine (C3.out _).mono ?_
        rintro e w1 ⟨rfl, rfl⟩
        go_wp2_with fail
        go_ret
        exact ⟨ret_bool (by rw [D.out]), (Below.refl _ _).alloc (Nat.le_refl _) _⟩

set_option maxHeartbeats 2000000 in
theorem optionsOkS (m c : Int) (k t : Bool) (v e : Int) (w : World) :
    Calls Try.prog 47 #[.agg #[.int .i64 m, .int .i64 c, .bool k, .bool t, .int .i64 v, .int .i64 e]] w fun e' w' => e' = .returned (.bool (optOk ⟨m, c, k, t, v, e⟩)) ∧ Below w.heap.size w w' := by
  have C1 := Lib.hid (wordOkS m 16)
  have CI := Lib.hid (l1In_any c (-1) 14)
  have C2 := Lib.hid (wordOkS v 32)
  have C3 := Lib.hid (wordOkS e 32)
  have U := Lib.hid (show optOk ⟨m, c, k, t, v, e⟩ = (wordOk m 16 && decide (-1 ≤ c ∧ c ≤ 14) && bif t then wordOk v 32 && wordOk e 32 else decide (v = 0 ∧ e = 0)) from rfl)
  generalize optOk ⟨m, c, k, t, v, e⟩ = z at U ⊢
  generalize wordOk m 16 = x1 at C1 U
  generalize decide (-1 ≤ c ∧ c ≤ 14) = y at CI U
  cases t with
  | false =>
    by_cases h3 : v = 0
    · subst h3
      by_cases h4 : e = 0
      · subst h4
        have e0 : wordOk 0 32 = true := by decide +kernel
        rw [e0] at C2 C3
        clear e0
        cases x1 with
        | false =>
          have D := Lib.hid (show z = false by rw [U.out]; rfl)
          clear U
          go_enter Try.func47, Try.ntmps47
          go_wp2_with fail
          refine (C1.out _).mono ?_
          rintro e w1 ⟨rfl, rfl⟩
          go_wp2_with fail
          go_ret
          exact ⟨ret_bool (by rw [D.out]), (Below.refl _ _).alloc (Nat.le_refl _) _⟩
        | true =>
          cases y with
          | false =>
            have D := Lib.hid (show z = false by rw [U.out]; rfl)
            clear U
            go_enter Try.func47, Try.ntmps47
            go_wp2_with fail
            refine (C1.out _).mono ?_
            rintro e w1 ⟨rfl, rfl⟩
            go_wp2_with fail
            refine (CI.out _).mono ?_
            rintro e w1 ⟨rfl, rfl⟩
            go_wp2_with fail
            go_ret
            exact ⟨ret_bool (by rw [D.out]), (Below.refl _ _).alloc (Nat.le_refl _) _⟩
          | true =>
            have D := Lib.hid (show z = true by rw [U.out]; rfl)
            clear U
            go_enter Try.func47, Try.ntmps47
            go_wp2_with fail
            refine (C1.out _).mono ?_
            rintro e w1 ⟨rfl, rfl⟩
            go_wp2_with fail
            refine (CI.out _).mono ?_
            rintro e w1 ⟨rfl, rfl⟩
            go_wp2_with fail
            refine (C2.out _).mono ?_
            rintro e w1 ⟨rfl, rfl⟩
            go_wp2_with fail
            refine (C3.out _).mono ?_
            rintro e w1 ⟨rfl, rfl⟩
            go_wp2_with fail
            go_ret
            exact ⟨ret_bool (by rw [D.out]), (Below.refl _ _).alloc (Nat.le_refl _) _⟩
      · have h4' : (e == 0) = false := by simp [h4]
        have h4'' : (e != 0) = true := by simp [h4]
        have D := Lib.hid (show z = false by rw [U.out, decide_eq_false (show ¬ ((0 : Int) = 0 ∧ e = 0) by omega)]; simp)
        clear U
        clear h4
        go_enter Try.func47, Try.ntmps47
        go_wp2_with fail
        go_ret
        exact ⟨ret_bool (by rw [D.out]), (Below.refl _ _).alloc (Nat.le_refl _) _⟩
    · have h3' : (v == 0) = false := by simp [h3]
      have h3'' : (v != 0) = true := by simp [h3]
      have D := Lib.hid (show z = false by rw [U.out, decide_eq_false (show ¬ (v = 0 ∧ e = 0) by omega)]; simp)
      clear U
      clear h3
      go_enter Try.func47, Try.ntmps47
      go_wp2_with fail
      go_ret
      exact ⟨ret_bool (by rw [D.out]), (Below.refl _ _).alloc (Nat.le_refl _) _⟩
  | true =>
    generalize wordOk v 32 = x2 at C2 U
    generalize wordOk e 32 = x3 at C3 U
    cases x1 with
    | false =>
      have D := Lib.hid (show z = false by rw [U.out]; simp)
      clear U
      go_enter Try.func47, Try.ntmps47
      go_wp2_with fail
      refine (C1.out _).mono ?_
      rintro e w1 ⟨rfl, rfl⟩
      go_wp2_with fail
      go_ret
      exact ⟨ret_bool (by rw [D.out]), (Below.refl _ _).alloc (Nat.le_refl _) _⟩
    | true =>
      cases y with
      | false =>
        have D := Lib.hid (show z = false by rw [U.out]; simp)
        clear U
        go_enter Try.func47, Try.ntmps47
        go_wp2_with fail
        refine (C1.out _).mono ?_
        rintro e w1 ⟨rfl, rfl⟩
        go_wp2_with fail
        refine (CI.out _).mono ?_
        rintro e w1 ⟨rfl, rfl⟩
        go_wp2_with fail
        go_ret
        exact ⟨ret_bool (by rw [D.out]), (Below.refl _ _).alloc (Nat.le_refl _) _⟩
      | true =>
        cases x2 with
        | false =>
          have D := Lib.hid (show z = false by rw [U.out]; simp)
          clear U
          go_enter Try.func47, Try.ntmps47
          go_wp2_with fail
          refine (C1.out _).mono ?_
          rintro e w1 ⟨rfl, rfl⟩
          go_wp2_with fail
          refine (CI.out _).mono ?_
          rintro e w1 ⟨rfl, rfl⟩
          go_wp2_with fail
          refine (C2.out _).mono ?_
          rintro e w1 ⟨rfl, rfl⟩
          go_wp2_with fail
          go_ret
          exact ⟨ret_bool (by rw [D.out]), (Below.refl _ _).alloc (Nat.le_refl _) _⟩
        | true =>
          have D := Lib.hid (show z = x3 by rw [U.out]; simp)
          clear U
          go_enter Try.func47, Try.ntmps47
          go_wp2_with fail
          refine (C1.out _).mono ?_
          rintro e w1 ⟨rfl, rfl⟩
          go_wp2_with fail
          refine (CI.out _).mono ?_
          rintro e w1 ⟨rfl, rfl⟩
          go_wp2_with fail
          refine (C2.out _).mono ?_
          rintro e w1 ⟨rfl, rfl⟩
          go_wp2_with fail
          refine (C3.out _).mono ?_
          rintro e w1 ⟨rfl, rfl⟩
          go_wp2_with fail
          go_ret
          exact ⟨ret_bool (by rw [D.out]), (Below.refl _ _).alloc (Nat.le_refl _) _⟩

set_option maxHeartbeats 2000000 in
theorem noOptionsI (w : World) :
    Calls Try.prog 41 #[] w fun e w' => e = .returned (.agg #[.int .i64 0, .int .i64 (-1), .bool false, .bool false, .int .i64 0, .int .i64 0]) ∧ Below w.heap.size w w' := by
  go_enter Try.func41, Try.ntmps41
  go_wp2
  exact bodyPost_ret (v := .agg #[.int .i64 0, .int .i64 (-1), .bool false, .bool false, .int .i64 0, .int .i64 0]) (by simp [results, Try.results41, go_sem]) rfl ⟨rfl, (Below.refl _ _).alloc (Nat.le_refl _) _⟩

set_option maxHeartbeats 2000000 in
theorem noOptionsS (w : World) :
    Calls Try.prog 48 #[] w fun e w' => e = .returned (.agg #[.int .i64 0, .int .i64 (-1), .bool false, .bool false, .int .i64 0, .int .i64 0]) ∧ Below w.heap.size w w' := by
  go_enter Try.func48, Try.ntmps48
  go_wp2
  exact bodyPost_ret (v := .agg #[.int .i64 0, .int .i64 (-1), .bool false, .bool false, .int .i64 0, .int .i64 0]) (by simp [results, Try.results48, go_sem]) rfl ⟨rfl, (Below.refl _ _).alloc (Nat.le_refl _) _⟩

end Go.Proofs.Ytajekjjaaohbnaa
