/- FrameText, of the model and of the program. -/
import Derived.Test.YtkkimgjcefojdaaFrameOk
import Derived.Test.YtkkimgjcefojdaaPutI
import Derived.Test.YtkkimgjcefojdaaPutS
import Derived.Test.YtkkimgjcefojdaaKit
import Derived.Deep.RegionHeld3
namespace Go.Proofs.Ytkkimgjcefojdaa
open Go.RowKit Go.Lib

set_option maxRecDepth 100000 in
set_option maxHeartbeats 2000000 in
theorem frameTextS (d s t : Int) (b : ByteArray) (w : World) :
    Calls Try.prog 24 #[.agg #[.int .i64 d, .int .i64 s, .int .i64 t, .string b]] w fun e w' => e = .returned (.string (frameText d s t b)) ∧ Below w.heap.size w w' := by
  have C1 := Lib.hid (frameOkS d s t b)
  obtain ⟨o, ho⟩ : ∃ o, frameOk d s t b = o := ⟨_, rfl⟩
  rw [ho] at C1
  unfold frameText
  rw [ho]
  cases o with
  | false =>
    clear ho
    go_enter Try.func24, Try.ntmps24
    go_wp2_with fail
    refine (C1.out _).mono ?_
    rintro e w1 ⟨rfl, hb1⟩
    have B1 := Lib.hid (((Below.refl w.heap.size w).alloc (Nat.le_refl _) _).trans (hb1.mono (by simp)))
    clear hb1
    go_wp2_with fail
    go_ret
    exact ⟨rfl, B1.out⟩
  | true =>
    have hz := frameOk_body ho
    have P1 := Lib.hid (putWordS d 6)
    have P2 := Lib.hid (putWordS s 6)
    have P3 := Lib.hid (putWordS t 2)
    obtain ⟨x, hx⟩ : ∃ x, putW d 6 = x := ⟨_, rfl⟩
    obtain ⟨y, hy⟩ : ∃ y, putW s 6 = y := ⟨_, rfl⟩
    obtain ⟨z, hz'⟩ : ∃ z, putW t 2 = z := ⟨_, rfl⟩
    have zx := putW_le d 6
    have zy := putW_le s 6
    have zz := putW_le t 2
    rw [hx] at P1 zx
    rw [hy] at P2 zy
    rw [hz'] at P3 zz
    rw [hx, hy, hz', if_pos rfl]
    have m1 : ¬ 9223372036854775807 < x.size + y.size := by omega
    have m2 : ¬ 9223372036854775807 < x.size + y.size + z.size := by omega
    have m3 : ¬ 9223372036854775807 < x.size + y.size + z.size + b.size := by omega
    clear ho hx hy hz' zx zy zz hz
    go_enter Try.func24, Try.ntmps24
    go_wp2_with fail
    refine (C1.out _).mono ?_
    rintro e w1 ⟨rfl, hb1⟩
    have B1 := Lib.hid (((Below.refl w.heap.size w).alloc (Nat.le_refl _) _).trans (hb1.mono (by simp)))
    have K1 := Lib.hid ((HasC.new w #[.int .i64 d, .int .i64 s, .int .i64 t, .string b] 49).keep hb1)
    clear hb1
    obtain ⟨c0, c1, c2, c3⟩ := K1.out.four
    have hg := K1.out.1
    go_wp2_with fail
    go_region_held3 (fun w' => w.heap.size < w'.heap.size ∧ w'.cell? ⟨w.heap.size, 0, none⟩ = some (.int .i64 d) ∧ w'.cell? ⟨w.heap.size, 1, none⟩ = some (.int .i64 s) ∧ w'.cell? ⟨w.heap.size, 2, none⟩ = some (.int .i64 t) ∧ w'.cell? ⟨w.heap.size, 3, none⟩ = some (.string b))
      (first | (exact keep4 (by assumption) hb4) | (exact keep4 (by assumption) hb3) | (exact keep4 (by assumption) hb2) | go_keep)
      ((go_at_call 36; first | ((with_reducible refine (P1.out _).mono ?_); rintro e w2 ⟨rfl, hb2⟩) | ((with_reducible refine (P2.out _).mono ?_); rintro e w3 ⟨rfl, hb3⟩) | ((with_reducible refine (P3.out _).mono ?_); rintro e w4 ⟨rfl, hb4⟩)))
    have B2 := Lib.hid (B1.out.drew.trans (hb2.mono B1.out.size))
    have B3 := Lib.hid (B2.out.trans (hb3.mono B2.out.size))
    have B4 := Lib.hid (B3.out.trans (hb4.mono B3.out.size))
    clear hb2 hb3 hb4 c0 c1 c2 c3
    go_wp2_with fail
    go_ret
    exact ⟨rfl, B4.out⟩

set_option maxRecDepth 100000 in
set_option maxHeartbeats 2000000 in
theorem frameTextI (d s t : Int) (b : ByteArray) (w : World) :
    Calls Try.prog 27 #[.agg #[.int .i64 d, .int .i64 s, .int .i64 t, .string b]] w fun e w' => e = .returned (.string (frameText d s t b)) ∧ Below w.heap.size w w' := by
  have C1 := Lib.hid (frameOkI d s t b)
  obtain ⟨o, ho⟩ : ∃ o, frameOk d s t b = o := ⟨_, rfl⟩
  rw [ho] at C1
  unfold frameText
  rw [ho]
  cases o with
  | false =>
    clear ho
    go_enter Try.func27, Try.ntmps27
    go_wp2_with fail
    refine (C1.out _).mono ?_
    rintro e w1 ⟨rfl, hb1⟩
    have B1 := Lib.hid (((Below.refl w.heap.size w).alloc (Nat.le_refl _) _).trans (hb1.mono (by simp)))
    clear hb1
    go_wp2_with fail
    go_ret
    exact ⟨rfl, B1.out⟩
  | true =>
    have hz := frameOk_body ho
    have P1 := Lib.hid (putWordI d 6)
    have P2 := Lib.hid (putWordI s 6)
    have P3 := Lib.hid (putWordI t 2)
    obtain ⟨x, hx⟩ : ∃ x, putW d 6 = x := ⟨_, rfl⟩
    obtain ⟨y, hy⟩ : ∃ y, putW s 6 = y := ⟨_, rfl⟩
    obtain ⟨z, hz'⟩ : ∃ z, putW t 2 = z := ⟨_, rfl⟩
    have zx := putW_le d 6
    have zy := putW_le s 6
    have zz := putW_le t 2
    rw [hx] at P1 zx
    rw [hy] at P2 zy
    rw [hz'] at P3 zz
    rw [hx, hy, hz', if_pos rfl]
    have m1 : ¬ 9223372036854775807 < x.size + y.size := by omega
    have m2 : ¬ 9223372036854775807 < x.size + y.size + z.size := by omega
    have m3 : ¬ 9223372036854775807 < x.size + y.size + z.size + b.size := by omega
    clear ho hx hy hz' zx zy zz hz
    go_enter Try.func27, Try.ntmps27
    go_wp2_with fail
    refine (C1.out _).mono ?_
    rintro e w1 ⟨rfl, hb1⟩
    have B1 := Lib.hid (((Below.refl w.heap.size w).alloc (Nat.le_refl _) _).trans (hb1.mono (by simp)))
    have K1 := Lib.hid ((HasC.new w #[.int .i64 d, .int .i64 s, .int .i64 t, .string b] 49).keep hb1)
    clear hb1
    obtain ⟨c0, c1, c2, c3⟩ := K1.out.four
    have hg := K1.out.1
    go_wp2_with fail
    go_region_held3 (fun w' => w.heap.size < w'.heap.size ∧ w'.cell? ⟨w.heap.size, 0, none⟩ = some (.int .i64 d) ∧ w'.cell? ⟨w.heap.size, 1, none⟩ = some (.int .i64 s) ∧ w'.cell? ⟨w.heap.size, 2, none⟩ = some (.int .i64 t) ∧ w'.cell? ⟨w.heap.size, 3, none⟩ = some (.string b))
      (first | (exact keep4 (by assumption) hb4) | (exact keep4 (by assumption) hb3) | (exact keep4 (by assumption) hb2) | go_keep)
      ((go_at_call 41; first | ((with_reducible refine (P1.out _).mono ?_); rintro e w2 ⟨rfl, hb2⟩) | ((with_reducible refine (P2.out _).mono ?_); rintro e w3 ⟨rfl, hb3⟩) | ((with_reducible refine (P3.out _).mono ?_); rintro e w4 ⟨rfl, hb4⟩)))
    have B2 := Lib.hid (B1.out.drew.trans (hb2.mono B1.out.size))
    have B3 := Lib.hid (B2.out.trans (hb3.mono B2.out.size))
    have B4 := Lib.hid (B3.out.trans (hb4.mono B3.out.size))
    clear hb2 hb3 hb4 c0 c1 c2 c3
    go_wp2_with fail
    go_ret
    exact ⟨rfl, B4.out⟩
end Go.Proofs.Ytkkimgjcefojdaa
