/- SenderOk, of both sides. Nothing here is a claim. -/
import Derived.Test.YtajekjjaaohbnaaSndKit
import Derived.Test.YtajekjjaaohbnaaBase
namespace Go.Proofs.Ytajekjjaaohbnaa
open Go.RowKit Go.Lib

set_option maxRecDepth 100000 in
set_option maxHeartbeats 4000000 in
theorem sndOkI (u : Int) (d : ByteArray) (t : Int) (f g h : Bool) (w : World) : Calls Try.prog 55 #[.agg #[.int .i64 u, .string d, .int .i64 t, .bool f, .bool g, .bool h]] w (SndB (sndOk ⟨u, d, t, f, g, h⟩) w) := by
  have C1 := Lib.hid (wordOkI u 32)
  cases hw : wordOk u 32 with
  | false =>
    rw [hw] at C1
    have D := Lib.hid (show sndOk ⟨u, d, t, f, g, h⟩ = _ from sndOk_not (fun k1 k2 k3 k4 k5 k6 => by rw [hw] at k1; cases k1))
    rw [D.out]
    clear D hw
    go_enter Try.func55, Try.ntmps55
    go_wp2_with fail
    refine (C1.out _).mono ?_
    rintro e w1 ⟨rfl, rfl⟩
    go_wp2_with fail
    go_ret
    exact ⟨rfl, (Below.refl _ _).alloc (Nat.le_refl _) _⟩
  | true =>
    rw [hw] at C1
    by_cases h1 : (48 : Int) < d.size
    · skip
      have D := Lib.hid (show sndOk ⟨u, d, t, f, g, h⟩ = _ from sndOk_not (fun k1 k2 k3 k4 k5 k6 => by omega))
      rw [D.out]
      clear D hw
      go_enter Try.func55, Try.ntmps55
      go_wp2_with fail
      refine (C1.out _).mono ?_
      rintro e w1 ⟨rfl, rfl⟩
      go_wp2_with fail
      go_ret
      exact ⟨rfl, (Below.refl _ _).alloc (Nat.le_refl _) _⟩
    by_cases h2 : t < 0
    · skip
      have D := Lib.hid (show sndOk ⟨u, d, t, f, g, h⟩ = _ from sndOk_not (fun k1 k2 k3 k4 k5 k6 => by omega))
      rw [D.out]
      clear D hw
      go_enter Try.func55, Try.ntmps55
      go_wp2_with fail
      refine (C1.out _).mono ?_
      rintro e w1 ⟨rfl, rfl⟩
      go_wp2_with fail
      go_ret
      exact ⟨rfl, (Below.refl _ _).alloc (Nat.le_refl _) _⟩
    by_cases h3 : (d.size : Int) < t
    · skip
      have D := Lib.hid (show sndOk ⟨u, d, t, f, g, h⟩ = _ from sndOk_not (fun k1 k2 k3 k4 k5 k6 => by omega))
      rw [D.out]
      clear D hw
      go_enter Try.func55, Try.ntmps55
      go_wp2_with fail
      refine (C1.out _).mono ?_
      rintro e w1 ⟨rfl, rfl⟩
      go_wp2_with fail
      go_ret
      exact ⟨rfl, (Below.refl _ _).alloc (Nat.le_refl _) _⟩
    cases g with
    | true =>
      cases f with
      | false =>
        have D := Lib.hid (show sndOk ⟨u, d, t, false, true, h⟩ = _ from sndOk_not (fun k1 k2 k3 k4 k5 k6 => by cases (k5 rfl).1))
        rw [D.out]
        clear D hw
        go_enter Try.func55, Try.ntmps55
        go_wp2_with fail
        refine (C1.out _).mono ?_
        rintro e w1 ⟨rfl, rfl⟩
        go_wp2_with fail
        go_ret
        exact ⟨rfl, (Below.refl _ _).alloc (Nat.le_refl _) _⟩
      | true =>
        by_cases h4 : t < d.size
        · skip
          have D := Lib.hid (show sndOk ⟨u, d, t, true, true, h⟩ = _ from sndOk_not (fun k1 k2 k3 k4 k5 k6 => by have k7 := (k5 rfl).2; omega))
          rw [D.out]
          clear D hw
          go_enter Try.func55, Try.ntmps55
          go_wp2_with fail
          refine (C1.out _).mono ?_
          rintro e w1 ⟨rfl, rfl⟩
          go_wp2_with fail
          go_ret
          exact ⟨rfl, (Below.refl _ _).alloc (Nat.le_refl _) _⟩
        cases h with
        | false =>
          have D := Lib.hid (show sndOk ⟨u, d, t, true, true, false⟩ = _ from sndOk_mk hw (by omega) (by omega) (by omega) (fun _ => ⟨rfl, by omega⟩) (fun k => by cases k))
          rw [D.out]
          clear D hw
          go_enter Try.func55, Try.ntmps55
          go_wp2_with fail
          refine (C1.out _).mono ?_
          rintro e w1 ⟨rfl, rfl⟩
          go_wp2_with fail
          go_ret
          exact ⟨rfl, (Below.refl _ _).alloc (Nat.le_refl _) _⟩
        | true =>
          have D := Lib.hid (show sndOk ⟨u, d, t, true, true, true⟩ = _ from sndOk_not (fun k1 k2 k3 k4 k5 k6 => by cases (k6 rfl).2.1))
          rw [D.out]
          clear D hw
          go_enter Try.func55, Try.ntmps55
          go_wp2_with fail
          refine (C1.out _).mono ?_
          rintro e w1 ⟨rfl, rfl⟩
          go_wp2_with fail
          go_ret
          exact ⟨rfl, (Below.refl _ _).alloc (Nat.le_refl _) _⟩
    | false =>
      cases h with
      | false =>
        have D := Lib.hid (show sndOk ⟨u, d, t, f, false, false⟩ = _ from sndOk_mk hw (by omega) (by omega) (by omega) (fun k => by cases k) (fun k => by cases k))
        rw [D.out]
        clear D hw
        go_enter Try.func55, Try.ntmps55
        go_wp2_with fail
        refine (C1.out _).mono ?_
        rintro e w1 ⟨rfl, rfl⟩
        go_wp2_with fail
        go_ret
        exact ⟨rfl, (Below.refl _ _).alloc (Nat.le_refl _) _⟩
      | true =>
        cases f with
        | false =>
          have D := Lib.hid (show sndOk ⟨u, d, t, false, false, true⟩ = _ from sndOk_not (fun k1 k2 k3 k4 k5 k6 => by cases (k6 rfl).1))
          rw [D.out]
          clear D hw
          go_enter Try.func55, Try.ntmps55
          go_wp2_with fail
          refine (C1.out _).mono ?_
          rintro e w1 ⟨rfl, rfl⟩
          go_wp2_with fail
          go_ret
          exact ⟨rfl, (Below.refl _ _).alloc (Nat.le_refl _) _⟩
        | true =>
          have hE := snd_isEmpty (x := d)
          by_cases h6 : d.size = 0
          · rw [decide_eq_true h6] at hE
            have D := Lib.hid (show sndOk ⟨u, d, t, true, false, true⟩ = _ from sndOk_mk hw (by omega) (by omega) (by omega) (fun k => by cases k) (fun _ => ⟨rfl, rfl, h6⟩))
            rw [D.out]
            clear D hw h6
            go_enter Try.func55, Try.ntmps55
            go_wp2_with fail
            refine (C1.out _).mono ?_
            rintro e w1 ⟨rfl, rfl⟩
            go_wp2_with fail
            go_ret
            exact ⟨rfl, (Below.refl _ _).alloc (Nat.le_refl _) _⟩
          · rw [decide_eq_false h6] at hE
            have D := Lib.hid (show sndOk ⟨u, d, t, true, false, true⟩ = _ from sndOk_not (fun k1 k2 k3 k4 k5 k6 => by exact h6 (k6 rfl).2.2))
            rw [D.out]
            clear D hw h6
            go_enter Try.func55, Try.ntmps55
            go_wp2_with fail
            refine (C1.out _).mono ?_
            rintro e w1 ⟨rfl, rfl⟩
            go_wp2_with fail
            go_ret
            exact ⟨rfl, (Below.refl _ _).alloc (Nat.le_refl _) _⟩

set_option maxRecDepth 100000 in
set_option maxHeartbeats 4000000 in
theorem sndOkS (u : Int) (d : ByteArray) (t : Int) (f g h : Bool) (w : World) : Calls Try.prog 68 #[.agg #[.int .i64 u, .string d, .int .i64 t, .bool f, .bool g, .bool h]] w (SndB (sndOk ⟨u, d, t, f, g, h⟩) w) := by
  have C1 := Lib.hid (wordOkS u 32)
  have C2 := Lib.hid (l1In_any t 0 d.size)
  cases hw : wordOk u 32 with
  | false =>
    rw [hw] at C1
    have D := Lib.hid (show sndOk ⟨u, d, t, f, g, h⟩ = _ from sndOk_not (fun k1 k2 k3 k4 k5 k6 => by rw [hw] at k1; cases k1))
    rw [D.out]
    clear D hw
    go_enter Try.func68, Try.ntmps68
    go_wp2_with fail
    refine (C1.out _).mono ?_
    rintro e w1 ⟨rfl, rfl⟩
    go_wp2_with fail
    go_ret
    exact ⟨rfl, (Below.refl _ _).alloc (Nat.le_refl _) _⟩
  | true =>
    rw [hw] at C1
    by_cases h1 : (48 : Int) < d.size
    · skip
      have D := Lib.hid (show sndOk ⟨u, d, t, f, g, h⟩ = _ from sndOk_not (fun k1 k2 k3 k4 k5 k6 => by omega))
      rw [D.out]
      clear D hw
      go_enter Try.func68, Try.ntmps68
      go_wp2_with fail
      refine (C1.out _).mono ?_
      rintro e w1 ⟨rfl, rfl⟩
      go_wp2_with fail
      go_ret
      exact ⟨rfl, (Below.refl _ _).alloc (Nat.le_refl _) _⟩
    by_cases h2 : ¬ (0 ≤ t ∧ t ≤ d.size)
    · rw [decide_eq_false h2] at C2
      have D := Lib.hid (show sndOk ⟨u, d, t, f, g, h⟩ = _ from sndOk_not (fun k1 k2 k3 k4 k5 k6 => by omega))
      rw [D.out]
      clear D hw
      go_enter Try.func68, Try.ntmps68
      go_wp2_with fail
      refine (C1.out _).mono ?_
      rintro e w1 ⟨rfl, rfl⟩
      go_wp2_with fail
      refine (C2.out _).mono ?_
      rintro e w1 ⟨rfl, rfl⟩
      go_wp2_with fail
      go_ret
      exact ⟨rfl, (Below.refl _ _).alloc (Nat.le_refl _) _⟩
    have h2 := Classical.not_not.1 h2
    rw [decide_eq_true h2] at C2
    obtain ⟨h2, h3⟩ := h2
    cases g with
    | true =>
      cases f with
      | false =>
        have D := Lib.hid (show sndOk ⟨u, d, t, false, true, h⟩ = _ from sndOk_not (fun k1 k2 k3 k4 k5 k6 => by cases (k5 rfl).1))
        rw [D.out]
        clear D hw
        go_enter Try.func68, Try.ntmps68
        go_wp2_with fail
        refine (C1.out _).mono ?_
        rintro e w1 ⟨rfl, rfl⟩
        go_wp2_with fail
        refine (C2.out _).mono ?_
        rintro e w1 ⟨rfl, rfl⟩
        go_wp2_with fail
        go_ret
        exact ⟨rfl, (Below.refl _ _).alloc (Nat.le_refl _) _⟩
      | true =>
        by_cases h4 : t < d.size
        · skip
          have h4' : (t != (d.size : Int)) = true := by simp; omega
          have D := Lib.hid (show sndOk ⟨u, d, t, true, true, h⟩ = _ from sndOk_not (fun k1 k2 k3 k4 k5 k6 => by have k7 := (k5 rfl).2; omega))
          rw [D.out]
          clear D hw h4
          go_enter Try.func68, Try.ntmps68
          go_wp2_with fail
          refine (C1.out _).mono ?_
          rintro e w1 ⟨rfl, rfl⟩
          go_wp2_with fail
          refine (C2.out _).mono ?_
          rintro e w1 ⟨rfl, rfl⟩
          go_wp2_with fail
          go_ret
          exact ⟨rfl, (Below.refl _ _).alloc (Nat.le_refl _) _⟩
        cases h with
        | false =>
          have h5 : (t != (d.size : Int)) = false := by simp; omega
          have D := Lib.hid (show sndOk ⟨u, d, t, true, true, false⟩ = _ from sndOk_mk hw (by omega) (by omega) (by omega) (fun _ => ⟨rfl, by omega⟩) (fun k => by cases k))
          rw [D.out]
          clear D hw h4
          go_enter Try.func68, Try.ntmps68
          go_wp2_with fail
          refine (C1.out _).mono ?_
          rintro e w1 ⟨rfl, rfl⟩
          go_wp2_with fail
          refine (C2.out _).mono ?_
          rintro e w1 ⟨rfl, rfl⟩
          go_wp2_with fail
          go_ret
          exact ⟨rfl, (Below.refl _ _).alloc (Nat.le_refl _) _⟩
        | true =>
          have h5 : (t != (d.size : Int)) = false := by simp; omega
          have D := Lib.hid (show sndOk ⟨u, d, t, true, true, true⟩ = _ from sndOk_not (fun k1 k2 k3 k4 k5 k6 => by cases (k6 rfl).2.1))
          rw [D.out]
          clear D hw h4
          go_enter Try.func68, Try.ntmps68
          go_wp2_with fail
          refine (C1.out _).mono ?_
          rintro e w1 ⟨rfl, rfl⟩
          go_wp2_with fail
          refine (C2.out _).mono ?_
          rintro e w1 ⟨rfl, rfl⟩
          go_wp2_with fail
          go_ret
          exact ⟨rfl, (Below.refl _ _).alloc (Nat.le_refl _) _⟩
    | false =>
      cases h with
      | false =>
        have D := Lib.hid (show sndOk ⟨u, d, t, f, false, false⟩ = _ from sndOk_mk hw (by omega) (by omega) (by omega) (fun k => by cases k) (fun k => by cases k))
        rw [D.out]
        clear D hw
        go_enter Try.func68, Try.ntmps68
        go_wp2_with fail
        refine (C1.out _).mono ?_
        rintro e w1 ⟨rfl, rfl⟩
        go_wp2_with fail
        refine (C2.out _).mono ?_
        rintro e w1 ⟨rfl, rfl⟩
        go_wp2_with fail
        go_ret
        exact ⟨rfl, (Below.refl _ _).alloc (Nat.le_refl _) _⟩
      | true =>
        cases f with
        | false =>
          have D := Lib.hid (show sndOk ⟨u, d, t, false, false, true⟩ = _ from sndOk_not (fun k1 k2 k3 k4 k5 k6 => by cases (k6 rfl).1))
          rw [D.out]
          clear D hw
          go_enter Try.func68, Try.ntmps68
          go_wp2_with fail
          refine (C1.out _).mono ?_
          rintro e w1 ⟨rfl, rfl⟩
          go_wp2_with fail
          refine (C2.out _).mono ?_
          rintro e w1 ⟨rfl, rfl⟩
          go_wp2_with fail
          go_ret
          exact ⟨rfl, (Below.refl _ _).alloc (Nat.le_refl _) _⟩
        | true =>
          have hE := snd_isEmpty (x := d)
          by_cases h6 : d.size = 0
          · rw [decide_eq_true h6] at hE
            have D := Lib.hid (show sndOk ⟨u, d, t, true, false, true⟩ = _ from sndOk_mk hw (by omega) (by omega) (by omega) (fun k => by cases k) (fun _ => ⟨rfl, rfl, h6⟩))
            rw [D.out]
            clear D hw h6
            go_enter Try.func68, Try.ntmps68
            go_wp2_with fail
            refine (C1.out _).mono ?_
            rintro e w1 ⟨rfl, rfl⟩
            go_wp2_with fail
            refine (C2.out _).mono ?_
            rintro e w1 ⟨rfl, rfl⟩
            go_wp2_with fail
            go_ret
            exact ⟨rfl, (Below.refl _ _).alloc (Nat.le_refl _) _⟩
          · rw [decide_eq_false h6] at hE
            have D := Lib.hid (show sndOk ⟨u, d, t, true, false, true⟩ = _ from sndOk_not (fun k1 k2 k3 k4 k5 k6 => by exact h6 (k6 rfl).2.2))
            rw [D.out]
            clear D hw h6
            go_enter Try.func68, Try.ntmps68
            go_wp2_with fail
            refine (C1.out _).mono ?_
            rintro e w1 ⟨rfl, rfl⟩
            go_wp2_with fail
            refine (C2.out _).mono ?_
            rintro e w1 ⟨rfl, rfl⟩
            go_wp2_with fail
            go_ret
            exact ⟨rfl, (Below.refl _ _).alloc (Nat.le_refl _) _⟩
end Go.Proofs.Ytajekjjaaohbnaa
