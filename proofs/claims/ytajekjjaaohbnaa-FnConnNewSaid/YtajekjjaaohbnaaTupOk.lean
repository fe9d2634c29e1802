/- Plain words on tuples (chapter 12 of the document); TupleOk, of the model and of the program. Nothing here is a claim. -/
import Derived.Test.YtajekjjaaohbnaaBase
namespace Go.Proofs.Ytajekjjaaohbnaa
open Go.RowKit Go.Lib

/-- Whether a tuple of these three fields is valid. -/
def tupOk (p q r : Int) : Bool := wordOk p 32 && (wordOk q 16 && wordOk r 16)

set_option maxHeartbeats 2000000 in
theorem tupOkS (p q r : Int) (w : World) :
    Calls Try.prog 17 #[.agg #[.int .i64 p, .int .i64 q, .int .i64 r]] w fun e w' => e = .returned (.bool (tupOk p q r)) ∧ Below w.heap.size w w' := by
  have C1 := Lib.hid (fun w => wordOkS p 32 w)
  have C2 := Lib.hid (fun w => wordOkS q 16 w)
  have C3 := Lib.hid (fun w => wordOkS r 16 w)
  have D : Hid (tupOk p q r = (wordOk p 32 && (wordOk q 16 && wordOk r 16))) := rfl
  obtain ⟨x1, hx1⟩ : ∃ x, wordOk p 32 = x := ⟨_, rfl⟩
  rw [hx1] at C1 D
  clear hx1
  obtain ⟨x2, hx2⟩ : ∃ x, wordOk q 16 = x := ⟨_, rfl⟩
  rw [hx2] at C2 D
  clear hx2
  obtain ⟨x3, hx3⟩ : ∃ x, wordOk r 16 = x := ⟨_, rfl⟩
  rw [hx3] at C3 D
  clear hx3
  rw [D.out]
  clear D
  cases x1 with
  | false =>
    go_enter Try.func17, Try.ntmps17
    go_wp2_with fail
    refine (C1.out _).mono ?_
    rintro e w1 ⟨rfl, rfl⟩
    go_wp2_with fail
    go_ret
    exact ⟨ret_bool (by simp), (Below.refl _ _).alloc (Nat.le_refl _) _⟩
  | true =>
    cases x2 with
    | false =>
      go_enter Try.func17, Try.ntmps17
      go_wp2_with fail
      refine (C1.out _).mono ?_
      rintro e w1 ⟨rfl, rfl⟩
      go_wp2_with fail
      refine (C2.out _).mono ?_
      rintro e w1 ⟨rfl, rfl⟩
      go_wp2_with fail
      go_ret
      exact ⟨ret_bool (by simp), (Below.refl _ _).alloc (Nat.le_refl _) _⟩
    | true =>
      cases x3 with
      | false =>
        go_enter Try.func17, Try.ntmps17
        go_wp2_with fail
        refine (C1.out _).mono ?_
        rintro e w1 ⟨rfl, rfl⟩
        go_wp2_with fail
        refine (C2.out _).mono ?_
        rintro e w1 ⟨rfl, rfl⟩
        go_wp2_with fail
        refine (C3.out _).mono ?_
        rintro e w1 ⟨rfl, rfl⟩
        go_wp2_with fail
        go_ret
        exact ⟨ret_bool (by simp), (Below.refl _ _).alloc (Nat.le_refl _) _⟩
      | true =>
        go_enter Try.func17, Try.ntmps17
        go_wp2_with fail
        refine (C1.out _).mono ?_
        rintro e w1 ⟨rfl, rfl⟩
        go_wp2_with fail
        refine (C2.out _).mono ?_
        rintro e w1 ⟨rfl, rfl⟩
        go_wp2_with fail
        refine (C3.out _).mono ?_
        rintro e w1 ⟨rfl, rfl⟩
        go_wp2_with fail
        go_ret
        exact ⟨ret_bool (by simp), (Below.refl _ _).alloc (Nat.le_refl _) _⟩

set_option maxHeartbeats 2000000 in
theorem tupOkI (p q r : Int) (w : World) :
    Calls Try.prog 54 #[.agg #[.int .i64 p, .int .i64 q, .int .i64 r]] w fun e w' => e = .returned (.bool (tupOk p q r)) ∧ Below w.heap.size w w' := by
  have C1 := Lib.hid (fun w => wordOkI p 32 w)
  have C2 := Lib.hid (fun w => wordOkI q 16 w)
  have C3 := Lib.hid (fun w => wordOkI r 16 w)
  have D : Hid (tupOk p q r = (wordOk p 32 && (wordOk q 16 && wordOk r 16))) := rfl
  obtain ⟨x1, hx1⟩ : ∃ x, wordOk p 32 = x := ⟨_, rfl⟩
  rw [hx1] at C1 D
  clear hx1
  obtain ⟨x2, hx2⟩ : ∃ x, wordOk q 16 = x := ⟨_, rfl⟩
  rw [hx2] at C2 D
  clear hx2
  obtain ⟨x3, hx3⟩ : ∃ x, wordOk r 16 = x := ⟨_, rfl⟩
  rw [hx3] at C3 D
  clear hx3
  rw [D.out]
  clear D
  cases x1 with
  | false =>
    go_enter Try.func54, Try.ntmps54
    go_wp2_with fail
    refine (C1.out _).mono ?_
    rintro e w1 ⟨rfl, rfl⟩
    go_wp2_with fail
    go_ret
    exact ⟨ret_bool (by simp), (Below.refl _ _).alloc (Nat.le_refl _) _⟩
  | true =>
    cases x2 with
    | false =>
      go_enter Try.func54, Try.ntmps54
      go_wp2_with fail
      refine (C1.out _).mono ?_
      rintro e w1 ⟨rfl, rfl⟩
      go_wp2_with fail
      refine (C2.out _).mono ?_
      rintro e w1 ⟨rfl, rfl⟩
      go_wp2_with fail
      go_ret
      exact ⟨ret_bool (by simp), (Below.refl _ _).alloc (Nat.le_refl _) _⟩
    | true =>
      cases x3 with
      | false =>
        go_enter Try.func54, Try.ntmps54
        go_wp2_with fail
        refine (C1.out _).mono ?_
        rintro e w1 ⟨rfl, rfl⟩
        go_wp2_with fail
        refine (C2.out _).mono ?_
        rintro e w1 ⟨rfl, rfl⟩
        go_wp2_with fail
        refine (C3.out _).mono ?_
        rintro e w1 ⟨rfl, rfl⟩
        go_wp2_with fail
        go_ret
        exact ⟨ret_bool (by simp), (Below.refl _ _).alloc (Nat.le_refl _) _⟩
      | true =>
        go_enter Try.func54, Try.ntmps54
        go_wp2_with fail
        refine (C1.out _).mono ?_
        rintro e w1 ⟨rfl, rfl⟩
        go_wp2_with fail
        refine (C2.out _).mono ?_
        rintro e w1 ⟨rfl, rfl⟩
        go_wp2_with fail
        refine (C3.out _).mono ?_
        rintro e w1 ⟨rfl, rfl⟩
        go_wp2_with fail
        go_ret
        exact ⟨ret_bool (by simp), (Below.refl _ _).alloc (Nat.le_refl _) _⟩

end Go.Proofs.Ytajekjjaaohbnaa
