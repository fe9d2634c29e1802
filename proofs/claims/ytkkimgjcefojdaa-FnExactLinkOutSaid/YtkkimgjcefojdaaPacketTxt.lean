/- PacketText, of the model and of the program. Nothing here is a claim. -/
import Derived.Test.YtkkimgjcefojdaaPacketKit
import Derived.Test.YtkkimgjcefojdaaPutI
import Derived.Test.YtkkimgjcefojdaaPutS
import Derived.Test.YtkkimgjcefojdaaSum
import Derived.Test.YtkkimgjcefojdaaKit
import Derived.Deep.RegionHeld3
namespace Go.Proofs.Ytkkimgjcefojdaa
open Go.RowKit Go.Lib

set_option maxRecDepth 100000 in
set_option maxHeartbeats 8000000 in
theorem packTextS (s d t p i : Int) (b : ByteArray) (w : World) :
    Calls Try.prog 23 #[.agg #[.int .i64 s, .int .i64 d, .int .i64 t, .int .i64 p, .int .i64 i, .string b]] w fun e w' => e = .returned (.string (packText s d t p i b)) ∧ Below w.heap.size w w' := by
  have C1 := Lib.hid (packOkS s d t p i b)
  cases ho : packOk s d t p i b with
  | false =>
    rw [packText_no ho]
    rw [ho] at C1
    clear ho
    go_enter Try.func23, Try.ntmps23
    go_wp2_with fail
    refine (C1.out _).mono ?_
    rintro e w1 ⟨rfl, hb1⟩
    have B1 := Lib.hid (((Below.refl w.heap.size w).alloc (Nat.le_refl _) _).trans (hb1.mono (by simp)))
    clear hb1
    go_wp2_with fail
    go_ret
    exact ⟨rfl, B1.out⟩
  | true =>
    have hz := (packOk_all ho).2.2.2.2.2
    have eh := packHead_size ho
    rw [packText_yes ho]
    rw [ho] at C1
    have hw : IntKind.i64.wrap (20 + (b.size : Int)) = 20 + b.size := by rw [IntKind.wrap_i64]; omega
    have E : Hid (packHead (20 + b.size) i t p = ⟨#[69, 0]⟩ ++ putW (20 + b.size) 2 ++ putW i 2 ++ ⟨#[0, 0]⟩ ++ putW t 1 ++ putW p 1) := rfl
    have E2 : Hid (packTail s d = putW s 4 ++ putW d 4) := rfl
    have P1 := Lib.hid (putWordS (20 + b.size) 2)
    have P2 := Lib.hid (putWordS (i) 2)
    have P3 := Lib.hid (putWordS (t) 1)
    have P4 := Lib.hid (putWordS (p) 1)
    have P5 := Lib.hid (putWordS (s) 4)
    have P6 := Lib.hid (putWordS (d) 4)
    have zy1 := putW_le (20 + b.size) 2
    have zy2 := putW_le (i) 2
    have zy3 := putW_le (t) 1
    have zy4 := putW_le (p) 1
    have zy5 := putW_le (s) 4
    have zy6 := putW_le (d) 4
    obtain ⟨y1, hy1⟩ : ∃ y, putW (20 + b.size) 2 = y := ⟨_, rfl⟩
    rw [hy1] at P1 zy1 E
    clear hy1
    obtain ⟨y2, hy2⟩ : ∃ y, putW (i) 2 = y := ⟨_, rfl⟩
    rw [hy2] at P2 zy2 E
    clear hy2
    obtain ⟨y3, hy3⟩ : ∃ y, putW (t) 1 = y := ⟨_, rfl⟩
    rw [hy3] at P3 zy3 E
    clear hy3
    obtain ⟨y4, hy4⟩ : ∃ y, putW (p) 1 = y := ⟨_, rfl⟩
    rw [hy4] at P4 zy4 E
    clear hy4
    obtain ⟨y5, hy5⟩ : ∃ y, putW (s) 4 = y := ⟨_, rfl⟩
    rw [hy5] at P5 zy5 E2
    clear hy5
    obtain ⟨y6, hy6⟩ : ∃ y, putW (d) 4 = y := ⟨_, rfl⟩
    rw [hy6] at P6 zy6 E2
    clear hy6
    obtain ⟨H, hH⟩ : ∃ H : ByteArray, packHead (20 + b.size) i t p = H := ⟨_, rfl⟩
    obtain ⟨T, hT⟩ : ∃ T : ByteArray, packTail s d = T := ⟨_, rfl⟩
    rw [hH] at E eh
    rw [hT] at E2
    rw [hH, hT]
    clear hH hT ho
    have zH : H.size ≤ 40 := by omega
    have zT : T.size ≤ 12 := by rw [E2.out, ByteArray.size_append]; omega
    have SO := Lib.hid (sumOfS (H ++ T) (by simp only [ByteArray.size_append, eh]; omega))
    clear eh
    have P7 := Lib.hid (putWordS (sumOf (H ++ T)) 2)
    have z7 := putW_le (sumOf (H ++ T)) 2
    obtain ⟨c, hc⟩ : ∃ c, sumOf (H ++ T) = c := ⟨_, rfl⟩
    rw [hc] at SO P7 z7
    rw [hc]
    clear hc
    obtain ⟨k, hk⟩ : ∃ k, putW c 2 = k := ⟨_, rfl⟩
    rw [hk] at P7 z7
    rw [hk]
    clear hk
    have m0 : ¬ 9223372036854775807 < 2 + y1.size := by omega
    have m1 : ¬ 9223372036854775807 < 2 + y1.size + y2.size := by omega
    have m2 : ¬ 9223372036854775807 < 2 + y1.size + y2.size + 2 := by omega
    have m3 : ¬ 9223372036854775807 < 2 + y1.size + y2.size + 2 + y3.size := by omega
    have m4 : ¬ 9223372036854775807 < 2 + y1.size + y2.size + 2 + y3.size + y4.size := by omega
    have m5 : ¬ 9223372036854775807 < y5.size + y6.size := by omega
    have m6 : ¬ 9223372036854775807 < H.size + T.size := by omega
    have m7 : ¬ 9223372036854775807 < H.size + k.size := by omega
    have m8 : ¬ 9223372036854775807 < H.size + k.size + T.size := by omega
    have m9 : ¬ 9223372036854775807 < H.size + k.size + T.size + b.size := by omega
    clear zy1 zy2 zy3 zy4 zy5 zy6 zH zT z7 hz
    go_enter Try.func23, Try.ntmps23
    go_wp2_with fail
    refine (C1.out _).mono ?_
    rintro e w1 ⟨rfl, hb1⟩
    have B1 := Lib.hid (((Below.refl w.heap.size w).alloc (Nat.le_refl _) _).trans (hb1.mono (by simp)))
    have K1 := Lib.hid ((HasC.new w #[.int .i64 s, .int .i64 d, .int .i64 t, .int .i64 p, .int .i64 i, .string b] 46).keep hb1)
    clear hb1
    obtain ⟨c0, c1, c2, c3, c4, c5⟩ := K1.out.of6
    have hg := K1.out.1
    go_wp2_with fail
    go_region_held3 (fun w' => w.heap.size < w'.heap.size ∧ w'.cell? ⟨w.heap.size, 0, none⟩ = some (.int .i64 s) ∧ w'.cell? ⟨w.heap.size, 1, none⟩ = some (.int .i64 d) ∧ w'.cell? ⟨w.heap.size, 2, none⟩ = some (.int .i64 t) ∧ w'.cell? ⟨w.heap.size, 3, none⟩ = some (.int .i64 p) ∧ w'.cell? ⟨w.heap.size, 4, none⟩ = some (.int .i64 i) ∧ w'.cell? ⟨w.heap.size, 5, none⟩ = some (.string b))
      (first | (exact keep6 (by assumption) hb6) | (exact keep6 (by assumption) hb5) | (exact keep6 (by assumption) hb4) | (exact keep6 (by assumption) hb3) | go_keep)
      ((go_at_call 36; first | ((with_reducible refine (P1.out _).mono ?_); rintro e w3 ⟨rfl, hb3⟩) | ((with_reducible refine (P2.out _).mono ?_); rintro e w4 ⟨rfl, hb4⟩) | ((with_reducible refine (P3.out _).mono ?_); rintro e w5 ⟨rfl, hb5⟩) | ((with_reducible refine (P4.out _).mono ?_); rintro e w6 ⟨rfl, hb6⟩)))
    have Bhb3 := Lib.hid (B1.out.drew.trans (hb3.mono (B1.out.drew).size))
    have Bhb4 := Lib.hid (Bhb3.out.trans (hb4.mono (Bhb3.out).size))
    have Bhb5 := Lib.hid (Bhb4.out.trans (hb5.mono (Bhb4.out).size))
    have Bhb6 := Lib.hid (Bhb5.out.trans (hb6.mono (Bhb5.out).size))
    have K2 := Lib.hid (((((K1.out.drew).keep hb3).keep hb4).keep hb5).keep hb6)
    clear c0 c1 c2 c3 c4 c5 hg K1 hb3 hb4 hb5 hb6
    rw [← E.out]
    clear E
    obtain ⟨c0, c1, c2, c3, c4, c5⟩ := K2.out.of6
    have hg := K2.out.1
    go_wp2_with fail
    go_region_held3 (fun w' => w.heap.size < w'.heap.size ∧ w'.cell? ⟨w.heap.size, 0, none⟩ = some (.int .i64 s) ∧ w'.cell? ⟨w.heap.size, 1, none⟩ = some (.int .i64 d) ∧ w'.cell? ⟨w.heap.size, 2, none⟩ = some (.int .i64 t) ∧ w'.cell? ⟨w.heap.size, 3, none⟩ = some (.int .i64 p) ∧ w'.cell? ⟨w.heap.size, 4, none⟩ = some (.int .i64 i) ∧ w'.cell? ⟨w.heap.size, 5, none⟩ = some (.string b))
      (first | (exact keep6 (by assumption) hb8) | (exact keep6 (by assumption) hb7) | go_keep)
      ((go_at_call 36; first | ((with_reducible refine (P5.out _).mono ?_); rintro e w7 ⟨rfl, hb7⟩) | ((with_reducible refine (P6.out _).mono ?_); rintro e w8 ⟨rfl, hb8⟩)))
    have Bhb7 := Lib.hid (Bhb6.out.drew.trans (hb7.mono (Bhb6.out.drew).size))
    have Bhb8 := Lib.hid (Bhb7.out.trans (hb8.mono (Bhb7.out).size))
    have K3 := Lib.hid (((K2.out.drew).keep hb7).keep hb8)
    clear c0 c1 c2 c3 c4 c5 hg K2 hb7 hb8
    rw [← E2.out]
    clear E2
    obtain ⟨c0, c1, c2, c3, c4, c5⟩ := K3.out.of6
    have hg := K3.out.1
    go_wp2_with fail
    go_region_held3 (fun w' => w.heap.size < w'.heap.size ∧ w'.cell? ⟨w.heap.size, 0, none⟩ = some (.int .i64 s) ∧ w'.cell? ⟨w.heap.size, 1, none⟩ = some (.int .i64 d) ∧ w'.cell? ⟨w.heap.size, 2, none⟩ = some (.int .i64 t) ∧ w'.cell? ⟨w.heap.size, 3, none⟩ = some (.int .i64 p) ∧ w'.cell? ⟨w.heap.size, 4, none⟩ = some (.int .i64 i) ∧ w'.cell? ⟨w.heap.size, 5, none⟩ = some (.string b))
      (first | (exact keep6 (by assumption) hb10) | go_keep)
      (first | (go_at_call 37; (with_reducible refine (SO.out _).mono ?_); rintro e w9 ⟨rfl, rfl⟩) | (go_at_call 36; (with_reducible refine (P7.out _).mono ?_); rintro e w10 ⟨rfl, hb10⟩))
    have Bhb10 := Lib.hid (Bhb8.out.drew.trans (hb10.mono (Bhb8.out.drew).size))
    clear c0 c1 c2 c3 c4 c5 hg K3 hb10
    go_wp2_with fail
    go_ret
    exact ⟨rfl, Bhb10.out⟩
set_option maxRecDepth 100000 in
set_option maxHeartbeats 8000000 in
theorem packTextI (s d t p i : Int) (b : ByteArray) (w : World) :
    Calls Try.prog 26 #[.agg #[.int .i64 s, .int .i64 d, .int .i64 t, .int .i64 p, .int .i64 i, .string b]] w fun e w' => e = .returned (.string (packText s d t p i b)) ∧ Below w.heap.size w w' := by
  have C1 := Lib.hid (packOkI s d t p i b)
  cases ho : packOk s d t p i b with
  | false =>
    rw [packText_no ho]
    rw [ho] at C1
    clear ho
    go_enter Try.func26, Try.ntmps26
    go_wp2_with fail
    refine (C1.out _).mono ?_
    rintro e w1 ⟨rfl, hb1⟩
    have B1 := Lib.hid (((Below.refl w.heap.size w).alloc (Nat.le_refl _) _).trans (hb1.mono (by simp)))
    clear hb1
    go_wp2_with fail
    go_ret
    exact ⟨rfl, B1.out⟩
  | true =>
    have hz := (packOk_all ho).2.2.2.2.2
    have eh := packHead_size ho
    rw [packText_yes ho]
    rw [ho] at C1
    have hw : IntKind.i64.wrap (20 + (b.size : Int)) = 20 + b.size := by rw [IntKind.wrap_i64]; omega
    have P0 := Lib.hid (putWordI 69 1)
    have zy0 := putW_le 69 1
    have E : Hid (packHead (20 + b.size) i t p = putW 69 1 ++ ⟨#[0]⟩ ++ putW (20 + b.size) 2 ++ putW i 2 ++ ⟨#[0, 0]⟩ ++ putW t 1 ++ putW p 1) := by show _ = _; rw [first_byte]; rfl
    obtain ⟨y0, hy0⟩ : ∃ y, putW 69 1 = y := ⟨_, rfl⟩
    rw [hy0] at P0 E zy0
    clear hy0
    have zz := sumOf_zero (packHead (20 + b.size) i t p) (packTail s d) (by omega)
    have E2 : Hid (packTail s d = putW s 4 ++ putW d 4) := rfl
    have P1 := Lib.hid (putWordI (20 + b.size) 2)
    have P2 := Lib.hid (putWordI (i) 2)
    have P3 := Lib.hid (putWordI (t) 1)
    have P4 := Lib.hid (putWordI (p) 1)
    have P5 := Lib.hid (putWordI (s) 4)
    have P6 := Lib.hid (putWordI (d) 4)
    have zy1 := putW_le (20 + b.size) 2
    have zy2 := putW_le (i) 2
    have zy3 := putW_le (t) 1
    have zy4 := putW_le (p) 1
    have zy5 := putW_le (s) 4
    have zy6 := putW_le (d) 4
    obtain ⟨y1, hy1⟩ : ∃ y, putW (20 + b.size) 2 = y := ⟨_, rfl⟩
    rw [hy1] at P1 zy1 E
    clear hy1
    obtain ⟨y2, hy2⟩ : ∃ y, putW (i) 2 = y := ⟨_, rfl⟩
    rw [hy2] at P2 zy2 E
    clear hy2
    obtain ⟨y3, hy3⟩ : ∃ y, putW (t) 1 = y := ⟨_, rfl⟩
    rw [hy3] at P3 zy3 E
    clear hy3
    obtain ⟨y4, hy4⟩ : ∃ y, putW (p) 1 = y := ⟨_, rfl⟩
    rw [hy4] at P4 zy4 E
    clear hy4
    obtain ⟨y5, hy5⟩ : ∃ y, putW (s) 4 = y := ⟨_, rfl⟩
    rw [hy5] at P5 zy5 E2
    clear hy5
    obtain ⟨y6, hy6⟩ : ∃ y, putW (d) 4 = y := ⟨_, rfl⟩
    rw [hy6] at P6 zy6 E2
    clear hy6
    obtain ⟨H, hH⟩ : ∃ H : ByteArray, packHead (20 + b.size) i t p = H := ⟨_, rfl⟩
    obtain ⟨T, hT⟩ : ∃ T : ByteArray, packTail s d = T := ⟨_, rfl⟩
    rw [hH] at E eh zz
    rw [hT] at E2 zz
    rw [hH, hT, ← zz]
    clear zz
    clear hH hT ho
    have zH : H.size ≤ 40 := by omega
    have zT : T.size ≤ 12 := by rw [E2.out, ByteArray.size_append]; omega
    have SO := Lib.hid (sumOfI (H ++ ⟨#[0, 0]⟩ ++ T) (by simp only [ByteArray.size_append, eh]; show 10 + 2 + T.size ≤ _; omega))
    clear eh
    have P7 := Lib.hid (putWordI (sumOf (H ++ ⟨#[0, 0]⟩ ++ T)) 2)
    have z7 := putW_le (sumOf (H ++ ⟨#[0, 0]⟩ ++ T)) 2
    obtain ⟨c, hc⟩ : ∃ c, sumOf (H ++ ⟨#[0, 0]⟩ ++ T) = c := ⟨_, rfl⟩
    rw [hc] at SO P7 z7
    rw [hc]
    clear hc
    obtain ⟨k, hk⟩ : ∃ k, putW c 2 = k := ⟨_, rfl⟩
    rw [hk] at P7 z7
    rw [hk]
    clear hk
    have m0 : ¬ 9223372036854775807 < y0.size + 1 := by omega
    have m1 : ¬ 9223372036854775807 < y0.size + 1 + y1.size := by omega
    have m2 : ¬ 9223372036854775807 < y0.size + 1 + y1.size + y2.size := by omega
    have m3 : ¬ 9223372036854775807 < y0.size + 1 + y1.size + y2.size + 2 := by omega
    have m4 : ¬ 9223372036854775807 < y0.size + 1 + y1.size + y2.size + 2 + y3.size := by omega
    have m5 : ¬ 9223372036854775807 < y0.size + 1 + y1.size + y2.size + 2 + y3.size + y4.size := by omega
    have m6 : ¬ 9223372036854775807 < y5.size + y6.size := by omega
    have m7 : ¬ 9223372036854775807 < H.size + 2 := by omega
    have m8 : ¬ 9223372036854775807 < H.size + 2 + T.size := by omega
    have m9 : ¬ 9223372036854775807 < H.size + k.size := by omega
    have m10 : ¬ 9223372036854775807 < H.size + k.size + T.size := by omega
    have m11 : ¬ 9223372036854775807 < H.size + k.size + T.size + b.size := by omega
    clear zy0 zy1 zy2 zy3 zy4 zy5 zy6 zH zT z7 hz
    go_enter Try.func26, Try.ntmps26
    go_wp2_with fail
    refine (C1.out _).mono ?_
    rintro e w1 ⟨rfl, hb1⟩
    have B1 := Lib.hid (((Below.refl w.heap.size w).alloc (Nat.le_refl _) _).trans (hb1.mono (by simp)))
    have K1 := Lib.hid ((HasC.new w #[.int .i64 s, .int .i64 d, .int .i64 t, .int .i64 p, .int .i64 i, .string b] 46).keep hb1)
    clear hb1
    obtain ⟨c0, c1, c2, c3, c4, c5⟩ := K1.out.of6
    have hg := K1.out.1
    go_wp2_with fail
    go_region_held3 (fun w' => w.heap.size < w'.heap.size ∧ w'.cell? ⟨w.heap.size, 0, none⟩ = some (.int .i64 s) ∧ w'.cell? ⟨w.heap.size, 1, none⟩ = some (.int .i64 d) ∧ w'.cell? ⟨w.heap.size, 2, none⟩ = some (.int .i64 t) ∧ w'.cell? ⟨w.heap.size, 3, none⟩ = some (.int .i64 p) ∧ w'.cell? ⟨w.heap.size, 4, none⟩ = some (.int .i64 i) ∧ w'.cell? ⟨w.heap.size, 5, none⟩ = some (.string b))
      (first | (exact keep6 (by assumption) hb6) | (exact keep6 (by assumption) hb5) | (exact keep6 (by assumption) hb4) | (exact keep6 (by assumption) hb3) | (exact keep6 (by assumption) hb2) | go_keep)
      ((go_at_call 41; first | ((with_reducible refine (P0.out _).mono ?_); rintro e w2 ⟨rfl, hb2⟩) | ((with_reducible refine (P1.out _).mono ?_); rintro e w3 ⟨rfl, hb3⟩) | ((with_reducible refine (P2.out _).mono ?_); rintro e w4 ⟨rfl, hb4⟩) | ((with_reducible refine (P3.out _).mono ?_); rintro e w5 ⟨rfl, hb5⟩) | ((with_reducible refine (P4.out _).mono ?_); rintro e w6 ⟨rfl, hb6⟩)))
    have Bhb2 := Lib.hid (B1.out.drew.trans (hb2.mono (B1.out.drew).size))
    have Bhb3 := Lib.hid (Bhb2.out.trans (hb3.mono (Bhb2.out).size))
    have Bhb4 := Lib.hid (Bhb3.out.trans (hb4.mono (Bhb3.out).size))
    have Bhb5 := Lib.hid (Bhb4.out.trans (hb5.mono (Bhb4.out).size))
    have Bhb6 := Lib.hid (Bhb5.out.trans (hb6.mono (Bhb5.out).size))
    have K2 := Lib.hid ((((((K1.out.drew).keep hb2).keep hb3).keep hb4).keep hb5).keep hb6)
    clear c0 c1 c2 c3 c4 c5 hg K1 hb2 hb3 hb4 hb5 hb6
    rw [← E.out]
    clear E
    obtain ⟨c0, c1, c2, c3, c4, c5⟩ := K2.out.of6
    have hg := K2.out.1
    go_wp2_with fail
    go_region_held3 (fun w' => w.heap.size < w'.heap.size ∧ w'.cell? ⟨w.heap.size, 0, none⟩ = some (.int .i64 s) ∧ w'.cell? ⟨w.heap.size, 1, none⟩ = some (.int .i64 d) ∧ w'.cell? ⟨w.heap.size, 2, none⟩ = some (.int .i64 t) ∧ w'.cell? ⟨w.heap.size, 3, none⟩ = some (.int .i64 p) ∧ w'.cell? ⟨w.heap.size, 4, none⟩ = some (.int .i64 i) ∧ w'.cell? ⟨w.heap.size, 5, none⟩ = some (.string b))
      (first | (exact keep6 (by assumption) hb8) | (exact keep6 (by assumption) hb7) | go_keep)
      ((go_at_call 41; first | ((with_reducible refine (P5.out _).mono ?_); rintro e w7 ⟨rfl, hb7⟩) | ((with_reducible refine (P6.out _).mono ?_); rintro e w8 ⟨rfl, hb8⟩)))
    have Bhb7 := Lib.hid (Bhb6.out.drew.trans (hb7.mono (Bhb6.out.drew).size))
    have Bhb8 := Lib.hid (Bhb7.out.trans (hb8.mono (Bhb7.out).size))
    have K3 := Lib.hid (((K2.out.drew).keep hb7).keep hb8)
    clear c0 c1 c2 c3 c4 c5 hg K2 hb7 hb8
    rw [← E2.out]
    clear E2
    obtain ⟨c0, c1, c2, c3, c4, c5⟩ := K3.out.of6
    have hg := K3.out.1
    go_wp2_with fail
    go_region_held3 (fun w' => w.heap.size < w'.heap.size ∧ w'.cell? ⟨w.heap.size, 0, none⟩ = some (.int .i64 s) ∧ w'.cell? ⟨w.heap.size, 1, none⟩ = some (.int .i64 d) ∧ w'.cell? ⟨w.heap.size, 2, none⟩ = some (.int .i64 t) ∧ w'.cell? ⟨w.heap.size, 3, none⟩ = some (.int .i64 p) ∧ w'.cell? ⟨w.heap.size, 4, none⟩ = some (.int .i64 i) ∧ w'.cell? ⟨w.heap.size, 5, none⟩ = some (.string b))
      (first | (exact keep6 (by assumption) hb10) | (exact keep6 (by assumption) hb9) | go_keep)
      (first | (go_at_call 42; (with_reducible refine (SO.out _).mono ?_); rintro e w9 ⟨rfl, hb9⟩) | (go_at_call 41; (with_reducible refine (P7.out _).mono ?_); rintro e w10 ⟨rfl, hb10⟩))
    have Bhb9 := Lib.hid (Bhb8.out.drew.trans (hb9.mono (Bhb8.out.drew).size))
    have Bhb10 := Lib.hid (Bhb9.out.trans (hb10.mono (Bhb9.out).size))
    clear c0 c1 c2 c3 c4 c5 hg K3 hb10 hb9
    go_wp2_with fail
    go_ret
    exact ⟨rfl, Bhb10.out⟩
end Go.Proofs.Ytkkimgjcefojdaa
