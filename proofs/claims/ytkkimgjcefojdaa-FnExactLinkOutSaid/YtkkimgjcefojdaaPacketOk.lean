/- Plain words on packets (chapter 7 of the document); PacketOk, of the model and of the program. Nothing here is a claim. -/
import Derived.Test.YtkkimgjcefojdaaWordA
namespace Go.Proofs.Ytkkimgjcefojdaa
open Go.RowKit Go.Lib

/-- Whether a packet of these six fields is valid. -/
def packOk (s d t p i : Int) (b : ByteArray) : Bool := wordOk s 32 && (wordOk d 32 && (decide (1 ≤ t ∧ t ≤ 255) && (wordOk p 8 && (wordOk i 16 && decide (b.size ≤ 1480)))))
theorem ttl_word (t : Int) (h : 1 ≤ t) : wordOk t 8 = decide (1 ≤ t ∧ t ≤ 255) := by
  unfold wordOk
  rw [decide_eq_decide, show (2 : Int) ^ (8 : Int).toNat = 256 from rfl]
  omega

set_option maxHeartbeats 2000000 in
theorem packOkS (s d t p i : Int) (b : ByteArray) (w : World) :
    Calls Try.prog 35 #[.agg #[.int .i64 s, .int .i64 d, .int .i64 t, .int .i64 p, .int .i64 i, .string b]] w fun e w' => e = .returned (.bool (packOk s d t p i b)) ∧ Below w.heap.size w w' := by
  have C1 := Lib.hid (fun w => wordOkS s 32 w)
  have C2 := Lib.hid (fun w => wordOkS d 32 w)
  have C4 := Lib.hid (fun w => wordOkS p 8 w)
  have C5 := Lib.hid (fun w => wordOkS i 16 w)
  have D : Hid (packOk s d t p i b = (wordOk s 32 && (wordOk d 32 && (decide (1 ≤ t ∧ t ≤ 255) && (wordOk p 8 && (wordOk i 16 && decide (b.size ≤ 1480))))))) := rfl
  obtain ⟨x1, hx1⟩ : ∃ x, wordOk s 32 = x := ⟨_, rfl⟩
  rw [hx1] at C1 D
  clear hx1
  obtain ⟨x2, hx2⟩ : ∃ x, wordOk d 32 = x := ⟨_, rfl⟩
  rw [hx2] at C2 D
  clear hx2
  obtain ⟨x4, hx4⟩ : ∃ x, wordOk p 8 = x := ⟨_, rfl⟩
  rw [hx4] at C4 D
  clear hx4
  obtain ⟨x5, hx5⟩ : ∃ x, wordOk i 16 = x := ⟨_, rfl⟩
  rw [hx5] at C5 D
  clear hx5
  have C3 := Lib.hid (fun w => l1In_any t 1 255 w)
  obtain ⟨x3, hx3⟩ : ∃ x, decide (1 ≤ t ∧ t ≤ 255) = x := ⟨_, rfl⟩
  rw [hx3] at C3 D
  clear hx3
  rw [D.out]
  clear D
  cases x1 with
  | false =>
    go_enter Try.func35, Try.ntmps35
    go_wp2_with fail
    refine (C1.out _).mono ?_
    rintro e w1 ⟨rfl, rfl⟩
    go_wp2_with fail
    go_ret
    exact ⟨ret_bool (by simp), (Below.refl _ _).alloc (Nat.le_refl _) _⟩
  | true =>
    cases x2 with
    | false =>
      go_enter Try.func35, Try.ntmps35
      go_wp2_with fail
      refine (C1.out _).mono ?_
      rintro e w1 ⟨rfl, rfl⟩
      go_wp2_with fail
      refine (C2.out _).mono ?_
      rintro e w1 ⟨rfl, rfl⟩
      go_wp2_with fail
      go_ret
      exact ⟨ret_bool (by simp), (Below.refl _ _).alloc (Nat.le_refl _) _⟩
    | true =>
      cases x3 with
      | false =>
        go_enter Try.func35, Try.ntmps35
        go_wp2_with fail
        refine (C1.out _).mono ?_
        rintro e w1 ⟨rfl, rfl⟩
        go_wp2_with fail
        refine (C2.out _).mono ?_
        rintro e w1 ⟨rfl, rfl⟩
        go_wp2_with fail
        refine (C3.out _).mono ?_
        rintro e w1 ⟨rfl, rfl⟩
        go_wp2_with fail
        go_ret
        exact ⟨ret_bool (by simp), (Below.refl _ _).alloc (Nat.le_refl _) _⟩
      | true =>
        cases x4 with
        | false =>
          go_enter Try.func35, Try.ntmps35
          go_wp2_with fail
          refine (C1.out _).mono ?_
          rintro e w1 ⟨rfl, rfl⟩
          go_wp2_with fail
          refine (C2.out _).mono ?_
          rintro e w1 ⟨rfl, rfl⟩
          go_wp2_with fail
          refine (C3.out _).mono ?_
          rintro e w1 ⟨rfl, rfl⟩
          go_wp2_with fail
          refine (C4.out _).mono ?_
          rintro e w1 ⟨rfl, rfl⟩
          go_wp2_with fail
          go_ret
          exact ⟨ret_bool (by simp), (Below.refl _ _).alloc (Nat.le_refl _) _⟩
        | true =>
          cases x5 with
          | false =>
            go_enter Try.func35, Try.ntmps35
            go_wp2_with fail
            refine (C1.out _).mono ?_
            rintro e w1 ⟨rfl, rfl⟩
            go_wp2_with fail
            refine (C2.out _).mono ?_
            rintro e w1 ⟨rfl, rfl⟩
            go_wp2_with fail
            refine (C3.out _).mono ?_
            rintro e w1 ⟨rfl, rfl⟩
            go_wp2_with fail
            refine (C4.out _).mono ?_
            rintro e w1 ⟨rfl, rfl⟩
            go_wp2_with fail
            refine (C5.out _).mono ?_
            rintro e w1 ⟨rfl, rfl⟩
            go_wp2_with fail
            go_ret
            exact ⟨ret_bool (by simp), (Below.refl _ _).alloc (Nat.le_refl _) _⟩
          | true =>
            go_enter Try.func35, Try.ntmps35
            go_wp2_with fail
            refine (C1.out _).mono ?_
            rintro e w1 ⟨rfl, rfl⟩
            go_wp2_with fail
            refine (C2.out _).mono ?_
            rintro e w1 ⟨rfl, rfl⟩
            go_wp2_with fail
            refine (C3.out _).mono ?_
            rintro e w1 ⟨rfl, rfl⟩
            go_wp2_with fail
            refine (C4.out _).mono ?_
            rintro e w1 ⟨rfl, rfl⟩
            go_wp2_with fail
            refine (C5.out _).mono ?_
            rintro e w1 ⟨rfl, rfl⟩
            go_wp2_with fail
            go_ret
            exact ⟨ret_bool (by simp only [Bool.true_and]; rw [decide_eq_decide]; omega), (Below.refl _ _).alloc (Nat.le_refl _) _⟩

set_option maxHeartbeats 2000000 in
theorem packOkI (s d t p i : Int) (b : ByteArray) (w : World) :
    Calls Try.prog 40 #[.agg #[.int .i64 s, .int .i64 d, .int .i64 t, .int .i64 p, .int .i64 i, .string b]] w fun e w' => e = .returned (.bool (packOk s d t p i b)) ∧ Below w.heap.size w w' := by
  have C1 := Lib.hid (fun w => wordOkI s 32 w)
  have C2 := Lib.hid (fun w => wordOkI d 32 w)
  have C4 := Lib.hid (fun w => wordOkI p 8 w)
  have C5 := Lib.hid (fun w => wordOkI i 16 w)
  have D : Hid (packOk s d t p i b = (wordOk s 32 && (wordOk d 32 && (decide (1 ≤ t ∧ t ≤ 255) && (wordOk p 8 && (wordOk i 16 && decide (b.size ≤ 1480))))))) := rfl
  obtain ⟨x1, hx1⟩ : ∃ x, wordOk s 32 = x := ⟨_, rfl⟩
  rw [hx1] at C1 D
  clear hx1
  obtain ⟨x2, hx2⟩ : ∃ x, wordOk d 32 = x := ⟨_, rfl⟩
  rw [hx2] at C2 D
  clear hx2
  obtain ⟨x4, hx4⟩ : ∃ x, wordOk p 8 = x := ⟨_, rfl⟩
  rw [hx4] at C4 D
  clear hx4
  obtain ⟨x5, hx5⟩ : ∃ x, wordOk i 16 = x := ⟨_, rfl⟩
  rw [hx5] at C5 D
  clear hx5
  by_cases ht : 1 ≤ t
  · have C3 := Lib.hid (fun w => wordOkI t 8 w)
    rw [ttl_word t ht] at C3
    obtain ⟨x3, hx3⟩ : ∃ x, decide (1 ≤ t ∧ t ≤ 255) = x := ⟨_, rfl⟩
    rw [hx3] at C3 D
    clear hx3
    rw [D.out]
    clear D
    cases x1 with
    | false =>
      go_enter Try.func40, Try.ntmps40
      go_wp2_with fail
      refine (C1.out _).mono ?_
      rintro e w1 ⟨rfl, rfl⟩
      go_wp2_with fail
      go_ret
      exact ⟨ret_bool (by simp), (Below.refl _ _).alloc (Nat.le_refl _) _⟩
    | true =>
      cases x2 with
      | false =>
        go_enter Try.func40, Try.ntmps40
        go_wp2_with fail
        refine (C1.out _).mono ?_
        rintro e w1 ⟨rfl, rfl⟩
        go_wp2_with fail
        refine (C2.out _).mono ?_
        rintro e w1 ⟨rfl, rfl⟩
        go_wp2_with fail
        go_ret
        exact ⟨ret_bool (by simp), (Below.refl _ _).alloc (Nat.le_refl _) _⟩
      | true =>
        cases x5 with
        | false =>
          go_enter Try.func40, Try.ntmps40
          go_wp2_with fail
          refine (C1.out _).mono ?_
          rintro e w1 ⟨rfl, rfl⟩
          go_wp2_with fail
          refine (C2.out _).mono ?_
          rintro e w1 ⟨rfl, rfl⟩
          go_wp2_with fail
          refine (C5.out _).mono ?_
          rintro e w1 ⟨rfl, rfl⟩
          go_wp2_with fail
          go_ret
          exact ⟨ret_bool (by simp), (Below.refl _ _).alloc (Nat.le_refl _) _⟩
        | true =>
          cases x3 with
          | false =>
            go_enter Try.func40, Try.ntmps40
            go_wp2_with fail
            refine (C1.out _).mono ?_
            rintro e w1 ⟨rfl, rfl⟩
            go_wp2_with fail
            refine (C2.out _).mono ?_
            rintro e w1 ⟨rfl, rfl⟩
            go_wp2_with fail
            refine (C5.out _).mono ?_
            rintro e w1 ⟨rfl, rfl⟩
            go_wp2_with fail
            refine (C3.out _).mono ?_
            rintro e w1 ⟨rfl, rfl⟩
            go_wp2_with fail
            go_ret
            exact ⟨ret_bool (by simp), (Below.refl _ _).alloc (Nat.le_refl _) _⟩
          | true =>
            cases x4 with
            | false =>
              go_enter Try.func40, Try.ntmps40
              go_wp2_with fail
              refine (C1.out _).mono ?_
              rintro e w1 ⟨rfl, rfl⟩
              go_wp2_with fail
              refine (C2.out _).mono ?_
              rintro e w1 ⟨rfl, rfl⟩
              go_wp2_with fail
              refine (C5.out _).mono ?_
              rintro e w1 ⟨rfl, rfl⟩
              go_wp2_with fail
              refine (C3.out _).mono ?_
              rintro e w1 ⟨rfl, rfl⟩
              go_wp2_with fail
              refine (C4.out _).mono ?_
              rintro e w1 ⟨rfl, rfl⟩
              go_wp2_with fail
              go_ret
              exact ⟨ret_bool (by simp), (Below.refl _ _).alloc (Nat.le_refl _) _⟩
            | true =>
              go_enter Try.func40, Try.ntmps40
              go_wp2_with fail
              refine (C1.out _).mono ?_
              rintro e w1 ⟨rfl, rfl⟩
              go_wp2_with fail
              refine (C2.out _).mono ?_
              rintro e w1 ⟨rfl, rfl⟩
              go_wp2_with fail
              refine (C5.out _).mono ?_
              rintro e w1 ⟨rfl, rfl⟩
              go_wp2_with fail
              refine (C3.out _).mono ?_
              rintro e w1 ⟨rfl, rfl⟩
              go_wp2_with fail
              refine (C4.out _).mono ?_
              rintro e w1 ⟨rfl, rfl⟩
              go_wp2_with fail
              go_ret
              exact ⟨ret_bool (by simp only [Bool.true_and]; rw [decide_eq_decide]; omega), (Below.refl _ _).alloc (Nat.le_refl _) _⟩
  · rw [D.out, decide_eq_false (show ¬ (1 ≤ t ∧ t ≤ 255) by omega)]
    clear D
    cases x1 with
    | false =>
      go_enter Try.func40, Try.ntmps40
      go_wp2_with fail
      refine (C1.out _).mono ?_
      rintro e w1 ⟨rfl, rfl⟩
      go_wp2_with fail
      go_ret
      exact ⟨ret_bool (by simp), (Below.refl _ _).alloc (Nat.le_refl _) _⟩
    | true =>
      cases x2 with
      | false =>
        go_enter Try.func40, Try.ntmps40
        go_wp2_with fail
        refine (C1.out _).mono ?_
        rintro e w1 ⟨rfl, rfl⟩
        go_wp2_with fail
        refine (C2.out _).mono ?_
        rintro e w1 ⟨rfl, rfl⟩
        go_wp2_with fail
        go_ret
        exact ⟨ret_bool (by simp), (Below.refl _ _).alloc (Nat.le_refl _) _⟩
      | true =>
        cases x5 with
        | false =>
          go_enter Try.func40, Try.ntmps40
          go_wp2_with fail
          refine (C1.out _).mono ?_
          rintro e w1 ⟨rfl, rfl⟩
          go_wp2_with fail
          refine (C2.out _).mono ?_
          rintro e w1 ⟨rfl, rfl⟩
          go_wp2_with fail
          refine (C5.out _).mono ?_
          rintro e w1 ⟨rfl, rfl⟩
          go_wp2_with fail
          go_ret
          exact ⟨ret_bool (by simp), (Below.refl _ _).alloc (Nat.le_refl _) _⟩
        | true =>
          go_enter Try.func40, Try.ntmps40
          go_wp2_with fail
          refine (C1.out _).mono ?_
          rintro e w1 ⟨rfl, rfl⟩
          go_wp2_with fail
          refine (C2.out _).mono ?_
          rintro e w1 ⟨rfl, rfl⟩
          go_wp2_with fail
          refine (C5.out _).mono ?_
          rintro e w1 ⟨rfl, rfl⟩
          go_wp2_with fail
          go_ret
          exact ⟨ret_bool (by simp), (Below.refl _ _).alloc (Nat.le_refl _) _⟩

end Go.Proofs.Ytkkimgjcefojdaa
