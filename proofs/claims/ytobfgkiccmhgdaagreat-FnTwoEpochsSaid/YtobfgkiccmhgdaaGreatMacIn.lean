/- MacInput of the program. Nothing here is a claim. -/
import Derived.Test.YtobfgkiccmhgdaaGreatMacInS
import Derived.Test.YtobfgkiccmhgdaaGreatPutI
namespace Go.Proofs.YtobfgkiccmhgdaaGreat
open Go.RowKit Go.Lib

set_option maxRecDepth 100000 in
set_option maxHeartbeats 8000000 in
theorem macInI (p q r s t i : Int) (w : World) :
    Calls Tryz.prog 27 #[.agg #[.int .i64 p, .int .i64 q, .int .i64 r], .int .i64 s, .int .i64 t, .int .i64 i] w fun e w' => e = .returned (.string (macIn p q r s t i)) ∧ Below w.heap.size w w' := by
  have C1 := Lib.hid (tupOkI p q r)
  have C2 := Lib.hid (fun w => wordOkI s 32 w)
  have C3 := Lib.hid (fun w => wordOkI t 32 w)
  have D : Hid (macArg p q r s t i = (tupOk p q r && (wordOk s 32 && (wordOk t 32 && (decide (0 ≤ i) && decide (i ≤ 7)))))) := rfl
  obtain ⟨x1, hx1⟩ : ∃ x, tupOk p q r = x := ⟨_, rfl⟩
  rw [hx1] at C1 D
  clear hx1
  obtain ⟨x2, hx2⟩ : ∃ x, wordOk s 32 = x := ⟨_, rfl⟩
  rw [hx2] at C2 D
  clear hx2
  obtain ⟨x3, hx3⟩ : ∃ x, wordOk t 32 = x := ⟨_, rfl⟩
  rw [hx3] at C3 D
  clear hx3
  cases x1 with
  | false =>
    have E : macArg p q r s t i = false := by rw [D.out]; simp
    rw [macIn_no E]
    clear D E
    go_enter Tryz.func27, Tryz.ntmps27
    go_wp2_with fail
    refine (C1.out _).mono ?_
    rintro e w1 ⟨rfl, hb1⟩
    have B1 := Lib.hid (((Below.refl w.heap.size w).alloc (Nat.le_refl _) _).trans (hb1.mono (by simp)))
    clear hb1
    go_wp2_with fail
    go_ret
    exact ⟨rfl, B1.out⟩
  | true =>
    cases x2 with
    | false =>
      have E : macArg p q r s t i = false := by rw [D.out]; simp
      rw [macIn_no E]
      clear D E
      go_enter Tryz.func27, Tryz.ntmps27
      go_wp2_with fail
      refine (C1.out _).mono ?_
      rintro e w1 ⟨rfl, hb1⟩
      have B1 := Lib.hid (((Below.refl w.heap.size w).alloc (Nat.le_refl _) _).trans (hb1.mono (by simp)))
      clear hb1
      go_wp2_with fail
      refine (C2.out _).mono ?_
      rintro e _ ⟨rfl, rfl⟩
      go_wp2_with fail
      go_ret
      exact ⟨rfl, B1.out⟩
    | true =>
      cases x3 with
      | false =>
        have E : macArg p q r s t i = false := by rw [D.out]; simp
        rw [macIn_no E]
        clear D E
        go_enter Tryz.func27, Tryz.ntmps27
        go_wp2_with fail
        refine (C1.out _).mono ?_
        rintro e w1 ⟨rfl, hb1⟩
        have B1 := Lib.hid (((Below.refl w.heap.size w).alloc (Nat.le_refl _) _).trans (hb1.mono (by simp)))
        clear hb1
        go_wp2_with fail
        refine (C2.out _).mono ?_
        rintro e _ ⟨rfl, rfl⟩
        go_wp2_with fail
        refine (C3.out _).mono ?_
        rintro e _ ⟨rfl, rfl⟩
        go_wp2_with fail
        go_ret
        exact ⟨rfl, B1.out⟩
      | true =>
        by_cases hi0 : 0 ≤ i
        · by_cases hi7 : i ≤ 7
          · have E : macArg p q r s t i = true := by rw [D.out]; simp [hi0, hi7]
            rw [macIn_yes E]
            clear D E
            have P0 := Lib.hid (putWordI p 4)
            have z0 := putW_le p 4
            obtain ⟨y0, e0⟩ : ∃ x, putW p 4 = x := ⟨_, rfl⟩
            rw [e0] at P0 z0
            have P1 := Lib.hid (putWordI q 2)
            have z1 := putW_le q 2
            obtain ⟨y1, e1⟩ : ∃ x, putW q 2 = x := ⟨_, rfl⟩
            rw [e1] at P1 z1
            have P2 := Lib.hid (putWordI r 2)
            have z2 := putW_le r 2
            obtain ⟨y2, e2⟩ : ∃ x, putW r 2 = x := ⟨_, rfl⟩
            rw [e2] at P2 z2
            have P3 := Lib.hid (putWordI s 4)
            have z3 := putW_le s 4
            obtain ⟨y3, e3⟩ : ∃ x, putW s 4 = x := ⟨_, rfl⟩
            rw [e3] at P3 z3
            have P4 := Lib.hid (putWordI t 4)
            have z4 := putW_le t 4
            obtain ⟨y4, e4⟩ : ∃ x, putW t 4 = x := ⟨_, rfl⟩
            rw [e4] at P4 z4
            have P5 := Lib.hid (putWordI i 1)
            have z5 := putW_le i 1
            obtain ⟨y5, e5⟩ : ∃ x, putW i 1 = x := ⟨_, rfl⟩
            rw [e5] at P5 z5
            rw [e0, e1, e2, e3, e4, e5]
            have m1 : ¬ 9223372036854775807 < y0.size + y1.size := by omega
            have m2 : ¬ 9223372036854775807 < y0.size + y1.size + y2.size := by omega
            have m3 : ¬ 9223372036854775807 < y0.size + y1.size + y2.size + y3.size := by omega
            have m4 : ¬ 9223372036854775807 < y0.size + y1.size + y2.size + y3.size + y4.size := by omega
            have m5 : ¬ 9223372036854775807 < y0.size + y1.size + y2.size + y3.size + y4.size + y5.size := by omega
            clear e0 e1 e2 e3 e4 e5 z0 z1 z2 z3 z4 z5
            go_enter Tryz.func27, Tryz.ntmps27
            go_wp2_with fail
            refine (C1.out _).mono ?_
            rintro e w1 ⟨rfl, hb1⟩
            have B1 := Lib.hid (((Below.refl w.heap.size w).alloc (Nat.le_refl _) _).trans (hb1.mono (by simp)))
            have K1 := Lib.hid ((HasC.new w #[.int .i64 p, .int .i64 q, .int .i64 r] 31).keep hb1)
            clear hb1
            have c0 := K1.out.at 0 rfl
            have c1 := K1.out.at 1 rfl
            have c2 := K1.out.at 2 rfl
            have hg := K1.out.1
            go_wp2_with fail
            refine (C2.out _).mono ?_
            rintro e _ ⟨rfl, rfl⟩
            go_wp2_with fail
            refine (C3.out _).mono ?_
            rintro e _ ⟨rfl, rfl⟩
            go_wp2_with fail
            go_region_held3 (fun w' => w.heap.size < w'.heap.size ∧ w'.cell? ⟨w.heap.size, 0, none⟩ = some (.int .i64 p) ∧ w'.cell? ⟨w.heap.size, 1, none⟩ = some (.int .i64 q) ∧ w'.cell? ⟨w.heap.size, 2, none⟩ = some (.int .i64 r))
              (first | (exact keep3 (by assumption) hb7) | (exact keep3 (by assumption) hb6) | (exact keep3 (by assumption) hb5) | (exact keep3 (by assumption) hb4) | (exact keep3 (by assumption) hb3) | (exact keep3 (by assumption) hb2) | go_keep)
              ((go_at_call 47; first | ((with_reducible refine (P0.out _).mono ?_); rintro e w2 ⟨rfl, hb2⟩) | ((with_reducible refine (P1.out _).mono ?_); rintro e w3 ⟨rfl, hb3⟩) | ((with_reducible refine (P2.out _).mono ?_); rintro e w4 ⟨rfl, hb4⟩) | ((with_reducible refine (P3.out _).mono ?_); rintro e w5 ⟨rfl, hb5⟩) | ((with_reducible refine (P4.out _).mono ?_); rintro e w6 ⟨rfl, hb6⟩) | ((with_reducible refine (P5.out _).mono ?_); rintro e w7 ⟨rfl, hb7⟩)))
            have B2 := Lib.hid (B1.out.drew.trans (hb2.mono B1.out.size))
            have B3 := Lib.hid (B2.out.trans (hb3.mono B2.out.size))
            have B4 := Lib.hid (B3.out.trans (hb4.mono B3.out.size))
            have B5 := Lib.hid (B4.out.trans (hb5.mono B4.out.size))
            have B6 := Lib.hid (B5.out.trans (hb6.mono B5.out.size))
            have B7 := Lib.hid (B6.out.trans (hb7.mono B6.out.size))
            clear hb2 hb3 hb4 hb5 hb6 hb7 c0 c1 c2 hg
            go_wp2_with fail
            go_ret
            exact ⟨rfl, B7.out⟩
          · have E : macArg p q r s t i = false := by rw [D.out]; simp; omega
            rw [macIn_no E]
            clear D E
            go_enter Tryz.func27, Tryz.ntmps27
            go_wp2_with fail
            refine (C1.out _).mono ?_
            rintro e w1 ⟨rfl, hb1⟩
            have B1 := Lib.hid (((Below.refl w.heap.size w).alloc (Nat.le_refl _) _).trans (hb1.mono (by simp)))
            clear hb1
            go_wp2_with fail
            refine (C2.out _).mono ?_
            rintro e _ ⟨rfl, rfl⟩
            go_wp2_with fail
            refine (C3.out _).mono ?_
            rintro e _ ⟨rfl, rfl⟩
            go_wp2_with fail
            go_ret
            exact ⟨rfl, B1.out⟩
        · have E : macArg p q r s t i = false := by rw [D.out]; simp; omega
          rw [macIn_no E]
          clear D E
          go_enter Tryz.func27, Tryz.ntmps27
          go_wp2_with fail
          refine (C1.out _).mono ?_
          rintro e w1 ⟨rfl, hb1⟩
          have B1 := Lib.hid (((Below.refl w.heap.size w).alloc (Nat.le_refl _) _).trans (hb1.mono (by simp)))
          clear hb1
          go_wp2_with fail
          refine (C2.out _).mono ?_
          rintro e _ ⟨rfl, rfl⟩
          go_wp2_with fail
          refine (C3.out _).mono ?_
          rintro e _ ⟨rfl, rfl⟩
          go_wp2_with fail
          go_ret
          exact ⟨rfl, B1.out⟩
end Go.Proofs.YtobfgkiccmhgdaaGreat
