/- ArpText, of the model and of the program. -/
import Derived.Test.YtamjkchhffhejaaArpOk
import Derived.Test.YtamjkchhffhejaaPutI
import Derived.Test.YtamjkchhffhejaaPutS
import Derived.Test.YtamjkchhffhejaaCells5
import Derived.Deep.RegionHeld3
namespace Go.Proofs.Ytamjkchhffhejaa
open Go.RowKit Go.Lib


set_option maxRecDepth 100000 in
set_option maxHeartbeats 4000000 in
theorem arpTextS (k a b c d : Int) (w : World) :
    Calls Try.prog 17 #[.agg #[.int .i64 k, .int .i64 a, .int .i64 b, .int .i64 c, .int .i64 d]] w fun e w' => e = .returned (.string (arpText k a b c d)) ∧ Below w.heap.size w w' := by
  have C1 := Lib.hid (arpOkS k a b c d)
  obtain ⟨o, ho⟩ : ∃ o, arpOk k a b c d = o := ⟨_, rfl⟩
  rw [ho] at C1
  unfold arpText
  rw [ho]
  cases o with
  | false =>
    clear ho
    go_enter Try.func17, Try.ntmps17
    go_wp2_with fail
    refine (C1.out _).mono ?_
    rintro e w1 ⟨rfl, hb1⟩
    have B1 := Lib.hid (((Below.refl w.heap.size w).alloc (Nat.le_refl _) _).trans (hb1.mono (by simp)))
    clear hb1
    go_wp2_with fail
    go_ret
    exact ⟨rfl, B1.out⟩
  | true =>
    have P0 := Lib.hid (putWordS k 2)
    obtain ⟨x0, e0⟩ : ∃ x, putW k 2 = x := ⟨_, rfl⟩
    have z0 := putW_six k 2
    rw [e0] at P0 z0
    have P1 := Lib.hid (putWordS a 6)
    obtain ⟨x1, e1⟩ : ∃ x, putW a 6 = x := ⟨_, rfl⟩
    have z1 := putW_six a 6
    rw [e1] at P1 z1
    have P2 := Lib.hid (putWordS b 4)
    obtain ⟨x2, e2⟩ : ∃ x, putW b 4 = x := ⟨_, rfl⟩
    have z2 := putW_six b 4
    rw [e2] at P2 z2
    have P3 := Lib.hid (putWordS c 6)
    obtain ⟨x3, e3⟩ : ∃ x, putW c 6 = x := ⟨_, rfl⟩
    have z3 := putW_six c 6
    rw [e3] at P3 z3
    have P4 := Lib.hid (putWordS d 4)
    obtain ⟨x4, e4⟩ : ∃ x, putW d 4 = x := ⟨_, rfl⟩
    have z4 := putW_six d 4
    rw [e4] at P4 z4
    rw [e0, e1, e2, e3, e4, if_pos rfl]
    have m0 : ¬ 9223372036854775807 < 6 + x0.size := by omega
    have m1 : ¬ 9223372036854775807 < 6 + x0.size + x1.size := by omega
    have m2 : ¬ 9223372036854775807 < 6 + x0.size + x1.size + x2.size := by omega
    have m3 : ¬ 9223372036854775807 < 6 + x0.size + x1.size + x2.size + x3.size := by omega
    have m4 : ¬ 9223372036854775807 < 6 + x0.size + x1.size + x2.size + x3.size + x4.size := by omega
    clear ho e0 e1 e2 e3 e4 z0 z1 z2 z3 z4
    go_enter Try.func17, Try.ntmps17
    go_wp2_with fail
    refine (C1.out _).mono ?_
    rintro e w1 ⟨rfl, hb1⟩
    have B1 := Lib.hid (((Below.refl w.heap.size w).alloc (Nat.le_refl _) _).trans (hb1.mono (by simp)))
    have K1 := Lib.hid ((HasC.new w #[.int .i64 k, .int .i64 a, .int .i64 b, .int .i64 c, .int .i64 d] 25).keep hb1)
    clear hb1
    obtain ⟨c0, c1, c2, c3, c4⟩ := K1.out.of5
    have hg := K1.out.1
    go_wp2_with fail
    go_region_held3 (fun w' => w.heap.size < w'.heap.size ∧ w'.cell? ⟨w.heap.size, 0, none⟩ = some (.int .i64 k) ∧ w'.cell? ⟨w.heap.size, 1, none⟩ = some (.int .i64 a) ∧ w'.cell? ⟨w.heap.size, 2, none⟩ = some (.int .i64 b) ∧ w'.cell? ⟨w.heap.size, 3, none⟩ = some (.int .i64 c) ∧ w'.cell? ⟨w.heap.size, 4, none⟩ = some (.int .i64 d))
      (first | (exact keep5 (by assumption) hb6) | (exact keep5 (by assumption) hb5) | (exact keep5 (by assumption) hb4) | (exact keep5 (by assumption) hb3) | (exact keep5 (by assumption) hb2) | go_keep)
      ((go_at_call 30; first | ((with_reducible refine (P0.out _).mono ?_); rintro e w2 ⟨rfl, hb2⟩) | ((with_reducible refine (P1.out _).mono ?_); rintro e w3 ⟨rfl, hb3⟩) | ((with_reducible refine (P2.out _).mono ?_); rintro e w4 ⟨rfl, hb4⟩) | ((with_reducible refine (P3.out _).mono ?_); rintro e w5 ⟨rfl, hb5⟩) | ((with_reducible refine (P4.out _).mono ?_); rintro e w6 ⟨rfl, hb6⟩)))
    have B2 := Lib.hid (B1.out.drew.trans (hb2.mono B1.out.size))
    have B3 := Lib.hid (B2.out.trans (hb3.mono B2.out.size))
    have B4 := Lib.hid (B3.out.trans (hb4.mono B3.out.size))
    have B5 := Lib.hid (B4.out.trans (hb5.mono B4.out.size))
    have B6 := Lib.hid (B5.out.trans (hb6.mono B5.out.size))
    clear hb2 hb3 hb4 hb5 hb6 c0 c1 c2 c3 c4
    go_wp2_with fail
    go_ret
    exact ⟨rfl, B6.out⟩
    
end Go.Proofs.Ytamjkchhffhejaa
