/- ArpOk, of the model and of the program. -/
import Derived.Test.YtamjkchhffhejaaArpKit
import Derived.Test.YtamjkchhffhejaaWordA
namespace Go.Proofs.Ytamjkchhffhejaa
open Go.RowKit Go.Lib


set_option maxHeartbeats 1000000 in
theorem arpOkS (k a b c d : Int) (w : World) :
    Calls Try.prog 14 #[.agg #[.int .i64 k, .int .i64 a, .int .i64 b, .int .i64 c, .int .i64 d]] w fun e w' => e = .returned (.bool (arpOk k a b c d)) ∧ Below w.heap.size w w' := by
  have Cp := Lib.hid (fun w => wordOkS a 48 w)
  obtain ⟨p, hp⟩ : ∃ p, wordOk a 48 = p := ⟨_, rfl⟩
  rw [hp] at Cp
  have Cq := Lib.hid (fun w => wordOkS c 48 w)
  obtain ⟨q, hq⟩ : ∃ q, wordOk c 48 = q := ⟨_, rfl⟩
  rw [hq] at Cq
  have Cr := Lib.hid (fun w => wordOkS b 32 w)
  obtain ⟨r, hr⟩ : ∃ r, wordOk b 32 = r := ⟨_, rfl⟩
  rw [hr] at Cr
  have Cs := Lib.hid (fun w => wordOkS d 32 w)
  obtain ⟨s, hs⟩ : ∃ s, wordOk d 32 = s := ⟨_, rfl⟩
  rw [hs] at Cs
  have Ct := Lib.hid (fun w => l1In_any k 1 2 w)
  obtain ⟨t, ht⟩ : ∃ t, decide (1 ≤ k ∧ k ≤ 2) = t := ⟨_, rfl⟩
  rw [ht] at Ct
  unfold arpOk
  rw [ht, hp, hq, hr, hs]
  clear ht hp hq hr hs
  cases t with
  | false =>
    go_enter Try.func14, Try.ntmps14
    go_wp2_with fail
    refine (Ct.out _).mono ?_
    rintro e w1 ⟨rfl, rfl⟩
    go_wp2_with fail
    go_ret
    exact ⟨rfl, (Below.refl _ _).alloc (Nat.le_refl _) _⟩
  | true =>
    cases p with
    | false =>
      go_enter Try.func14, Try.ntmps14
      go_wp2_with fail
      refine (Ct.out _).mono ?_
      rintro e w1 ⟨rfl, rfl⟩
      go_wp2_with fail
      refine (Cp.out _).mono ?_
      rintro e w1 ⟨rfl, rfl⟩
      go_wp2_with fail
      go_ret
      exact ⟨rfl, (Below.refl _ _).alloc (Nat.le_refl _) _⟩
    | true =>
      cases q with
      | false =>
        go_enter Try.func14, Try.ntmps14
        go_wp2_with fail
        refine (Ct.out _).mono ?_
        rintro e w1 ⟨rfl, rfl⟩
        go_wp2_with fail
        refine (Cp.out _).mono ?_
        rintro e w1 ⟨rfl, rfl⟩
        go_wp2_with fail
        refine (Cq.out _).mono ?_
        rintro e w1 ⟨rfl, rfl⟩
        go_wp2_with fail
        go_ret
        exact ⟨rfl, (Below.refl _ _).alloc (Nat.le_refl _) _⟩
      | true =>
        cases r with
        | false =>
          go_enter Try.func14, Try.ntmps14
          go_wp2_with fail
          refine (Ct.out _).mono ?_
          rintro e w1 ⟨rfl, rfl⟩
          go_wp2_with fail
          refine (Cp.out _).mono ?_
          rintro e w1 ⟨rfl, rfl⟩
          go_wp2_with fail
          refine (Cq.out _).mono ?_
          rintro e w1 ⟨rfl, rfl⟩
          go_wp2_with fail
          refine (Cr.out _).mono ?_
          rintro e w1 ⟨rfl, rfl⟩
          go_wp2_with fail
          go_ret
          exact ⟨rfl, (Below.refl _ _).alloc (Nat.le_refl _) _⟩
        | true =>
          cases s with
          | false =>
            go_enter Try.func14, Try.ntmps14
            go_wp2_with fail
            refine (Ct.out _).mono ?_
            rintro e w1 ⟨rfl, rfl⟩
            go_wp2_with fail
            refine (Cp.out _).mono ?_
            rintro e w1 ⟨rfl, rfl⟩
            go_wp2_with fail
            refine (Cq.out _).mono ?_
            rintro e w1 ⟨rfl, rfl⟩
            go_wp2_with fail
            refine (Cr.out _).mono ?_
            rintro e w1 ⟨rfl, rfl⟩
            go_wp2_with fail
            refine (Cs.out _).mono ?_
            rintro e w1 ⟨rfl, rfl⟩
            go_wp2_with fail
            go_ret
            exact ⟨rfl, (Below.refl _ _).alloc (Nat.le_refl _) _⟩
          | true =>
            go_enter Try.func14, Try.ntmps14
            go_wp2_with fail
            refine (Ct.out _).mono ?_
            rintro e w1 ⟨rfl, rfl⟩
            go_wp2_with fail
            refine (Cp.out _).mono ?_
            rintro e w1 ⟨rfl, rfl⟩
            go_wp2_with fail
            refine (Cq.out _).mono ?_
            rintro e w1 ⟨rfl, rfl⟩
            go_wp2_with fail
            refine (Cr.out _).mono ?_
            rintro e w1 ⟨rfl, rfl⟩
            go_wp2_with fail
            refine (Cs.out _).mono ?_
            rintro e w1 ⟨rfl, rfl⟩
            go_wp2_with fail
            go_ret
            exact ⟨rfl, (Below.refl _ _).alloc (Nat.le_refl _) _⟩

set_option maxHeartbeats 1000000 in
theorem arpOkI (k a b c d : Int) (w : World) :
    Calls Try.prog 15 #[.agg #[.int .i64 k, .int .i64 a, .int .i64 b, .int .i64 c, .int .i64 d]] w fun e w' => e = .returned (.bool (arpOk k a b c d)) ∧ Below w.heap.size w w' := by
  have Cp := Lib.hid (fun w => wordOkI a 48 w)
  obtain ⟨p, hp⟩ : ∃ p, wordOk a 48 = p := ⟨_, rfl⟩
  rw [hp] at Cp
  have Cq := Lib.hid (fun w => wordOkI c 48 w)
  obtain ⟨q, hq⟩ : ∃ q, wordOk c 48 = q := ⟨_, rfl⟩
  rw [hq] at Cq
  have Cr := Lib.hid (fun w => wordOkI b 32 w)
  obtain ⟨r, hr⟩ : ∃ r, wordOk b 32 = r := ⟨_, rfl⟩
  rw [hr] at Cr
  have Cs := Lib.hid (fun w => wordOkI d 32 w)
  obtain ⟨s, hs⟩ : ∃ s, wordOk d 32 = s := ⟨_, rfl⟩
  rw [hs] at Cs
  unfold arpOk
  rw [hp, hq, hr, hs]
  clear hp hq hr hs
  have hk : k = 1 ∨ k = 2 ∨ (k ≠ 1 ∧ k ≠ 2) := by omega
  rcases hk with rfl | rfl | ⟨k1, k2⟩
  · rw [decide_eq_true (show (1 : Int) ≤ 1 ∧ (1 : Int) ≤ 2 by omega)]
    cases p with
    | false =>
      go_enter Try.func15, Try.ntmps15
      go_wp2_with fail
      refine (Cp.out _).mono ?_
      rintro e w1 ⟨rfl, rfl⟩
      go_wp2_with fail
      go_ret
      exact ⟨rfl, (Below.refl _ _).alloc (Nat.le_refl _) _⟩
    | true =>
      cases q with
      | false =>
        go_enter Try.func15, Try.ntmps15
        go_wp2_with fail
        refine (Cp.out _).mono ?_
        rintro e w1 ⟨rfl, rfl⟩
        go_wp2_with fail
        refine (Cq.out _).mono ?_
        rintro e w1 ⟨rfl, rfl⟩
        go_wp2_with fail
        go_ret
        exact ⟨rfl, (Below.refl _ _).alloc (Nat.le_refl _) _⟩
      | true =>
        cases r with
        | false =>
          go_enter Try.func15, Try.ntmps15
          go_wp2_with fail
          refine (Cp.out _).mono ?_
          rintro e w1 ⟨rfl, rfl⟩
          go_wp2_with fail
          refine (Cq.out _).mono ?_
          rintro e w1 ⟨rfl, rfl⟩
          go_wp2_with fail
          refine (Cr.out _).mono ?_
          rintro e w1 ⟨rfl, rfl⟩
          go_wp2_with fail
          go_ret
          exact ⟨rfl, (Below.refl _ _).alloc (Nat.le_refl _) _⟩
        | true =>
          cases s with
          | false =>
            go_enter Try.func15, Try.ntmps15
            go_wp2_with fail
            refine (Cp.out _).mono ?_
            rintro e w1 ⟨rfl, rfl⟩
            go_wp2_with fail
            refine (Cq.out _).mono ?_
            rintro e w1 ⟨rfl, rfl⟩
            go_wp2_with fail
            refine (Cr.out _).mono ?_
            rintro e w1 ⟨rfl, rfl⟩
            go_wp2_with fail
            refine (Cs.out _).mono ?_
            rintro e w1 ⟨rfl, rfl⟩
            go_wp2_with fail
            go_ret
            exact ⟨rfl, (Below.refl _ _).alloc (Nat.le_refl _) _⟩
          | true =>
            go_enter Try.func15, Try.ntmps15
            go_wp2_with fail
            refine (Cp.out _).mono ?_
            rintro e w1 ⟨rfl, rfl⟩
            go_wp2_with fail
            refine (Cq.out _).mono ?_
            rintro e w1 ⟨rfl, rfl⟩
            go_wp2_with fail
            refine (Cr.out _).mono ?_
            rintro e w1 ⟨rfl, rfl⟩
            go_wp2_with fail
            refine (Cs.out _).mono ?_
            rintro e w1 ⟨rfl, rfl⟩
            go_wp2_with fail
            go_ret
            exact ⟨rfl, (Below.refl _ _).alloc (Nat.le_refl _) _⟩
  · rw [decide_eq_true (show (1 : Int) ≤ 2 ∧ (2 : Int) ≤ 2 by omega)]
    cases p with
    | false =>
      go_enter Try.func15, Try.ntmps15
      go_wp2_with fail
      refine (Cp.out _).mono ?_
      rintro e w1 ⟨rfl, rfl⟩
      go_wp2_with fail
      go_ret
      exact ⟨rfl, (Below.refl _ _).alloc (Nat.le_refl _) _⟩
    | true =>
      cases q with
      | false =>
        go_enter Try.func15, Try.ntmps15
        go_wp2_with fail
        refine (Cp.out _).mono ?_
        rintro e w1 ⟨rfl, rfl⟩
        go_wp2_with fail
        refine (Cq.out _).mono ?_
        rintro e w1 ⟨rfl, rfl⟩
        go_wp2_with fail
        go_ret
        exact ⟨rfl, (Below.refl _ _).alloc (Nat.le_refl _) _⟩
      | true =>
        cases r with
        | false =>
          go_enter Try.func15, Try.ntmps15
          go_wp2_with fail
          refine (Cp.out _).mono ?_
          rintro e w1 ⟨rfl, rfl⟩
          go_wp2_with fail
          refine (Cq.out _).mono ?_
          rintro e w1 ⟨rfl, rfl⟩
          go_wp2_with fail
          refine (Cr.out _).mono ?_
          rintro e w1 ⟨rfl, rfl⟩
          go_wp2_with fail
          go_ret
          exact ⟨rfl, (Below.refl _ _).alloc (Nat.le_refl _) _⟩
        | true =>
          cases s with
          | false =>
            go_enter Try.func15, Try.ntmps15
            go_wp2_with fail
            refine (Cp.out _).mono ?_
            rintro e w1 ⟨rfl, rfl⟩
            go_wp2_with fail
            refine (Cq.out _).mono ?_
            rintro e w1 ⟨rfl, rfl⟩
            go_wp2_with fail
            refine (Cr.out _).mono ?_
            rintro e w1 ⟨rfl, rfl⟩
            go_wp2_with fail
            refine (Cs.out _).mono ?_
            rintro e w1 ⟨rfl, rfl⟩
            go_wp2_with fail
            go_ret
            exact ⟨rfl, (Below.refl _ _).alloc (Nat.le_refl _) _⟩
          | true =>
            go_enter Try.func15, Try.ntmps15
            go_wp2_with fail
            refine (Cp.out _).mono ?_
            rintro e w1 ⟨rfl, rfl⟩
            go_wp2_with fail
            refine (Cq.out _).mono ?_
            rintro e w1 ⟨rfl, rfl⟩
            go_wp2_with fail
            refine (Cr.out _).mono ?_
            rintro e w1 ⟨rfl, rfl⟩
            go_wp2_with fail
            refine (Cs.out _).mono ?_
            rintro e w1 ⟨rfl, rfl⟩
            go_wp2_with fail
            go_ret
            exact ⟨rfl, (Below.refl _ _).alloc (Nat.le_refl _) _⟩
  · rw [decide_eq_false (show ¬ (1 ≤ k ∧ k ≤ 2) by omega)]
    clear Cp Cq Cr Cs
    have b1 : (k != 1) = true := by simpa using k1
    have b2 : (k != 2) = true := by simpa using k2
    go_enter Try.func15, Try.ntmps15
    go_wp2
    go_ret
    exact ⟨rfl, (Below.refl _ _).alloc (Nat.le_refl _) _⟩
end Go.Proofs.Ytamjkchhffhejaa
