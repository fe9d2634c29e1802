/- SegmentText of the model. Nothing here is a claim. -/
import Derived.Test.YtlfbcfhekfmkfaaSegTxt
import Derived.Test.YtlfbcfhekfmkfaaSegOk
import Derived.Test.YtlfbcfhekfmkfaaOptTxtS
import Derived.Test.YtlfbcfhekfmkfaaSum
import Derived.Test.YtlfbcfhekfmkfaaKit
import Derived.Deep.RegionHeld3
namespace Go.Proofs.Ytlfbcfhekfmkfaa
open Go.RowKit Go.Lib

set_option maxRecDepth 100000 in
set_option maxHeartbeats 8000000 in
theorem segTextS (p d q a g n : Int) (m c : Int) (k t : Bool) (v u : Int) (b : ByteArray) (x z : Int) (w : World) :
    Calls Try.prog 13 #[.agg #[.int .i64 p, .int .i64 d, .int .i64 q, .int .i64 a, .int .i64 g, .int .i64 n, .int .i64 m, .int .i64 c, .bool k, .bool t, .int .i64 v, .int .i64 u, .string b], .int .i64 x, .int .i64 z] w fun e w' => e = .returned (.string (segText ⟨p, d, q, a, g, n, ⟨m, c, k, t, v, u⟩, b⟩ x z)) ∧ Below w.heap.size w w' := by
  have C1 := Lib.hid (segOkS p d q a g n m c k t v u b)
  cases ho : segOk ⟨p, d, q, a, g, n, ⟨m, c, k, t, v, u⟩, b⟩ with
  | false =>
    rw [segText_no x z ho]
    rw [ho] at C1
    clear ho
    go_enter Try.func13, Try.ntmps13
    go_wp2_with fail
    refine (C1.out _).mono ?_
    rintro e w1 ⟨rfl, hb1⟩
    have B1 := Lib.hid (((Below.refl w.heap.size w).alloc (Nat.le_refl _) _).trans (hb1.mono (by simp)))
    clear hb1
    go_wp2_with fail
    go_ret
    exact ⟨rfl, B1.out⟩
  | true =>
    have hz : b.size ≤ 1420 := (segOk_all ho).2.2.2.2.2.2.2
    rw [segText_yes x z ho]
    rw [ho] at C1
    clear ho
    have CO := Lib.hid (optionsTextS m c k t v u)
    have yz := optText_size ⟨m, c, k, t, v, u⟩
    obtain ⟨y, hy⟩ : ∃ y, optText ⟨m, c, k, t, v, u⟩ = y := ⟨_, rfl⟩
    simp only [hy]
    rw [hy] at CO yz
    clear hy
    obtain ⟨yz1, yz2⟩ := yz
    obtain ⟨H, hH⟩ : ∃ H : Nat, 20 + y.size = H := ⟨_, rfl⟩
    obtain ⟨M, hM⟩ : ∃ M : Nat, H + b.size = M := ⟨_, rfl⟩
    obtain ⟨N, hN⟩ : ∃ N : Nat, H / 4 * 16 = N := ⟨_, rfl⟩
    have CP := Lib.hid (pseudoHeadS x z M)
    have EA : Hid (segFst ⟨p, d, q, a, g, n, ⟨m, c, k, t, v, u⟩, b⟩ y = putW p 2 ++ putW d 2 ++ putW q 4 ++ putW a 4 ++ putW (N : Int) 1 ++ putW g 1 ++ putW n 2) := by show _ = _; unfold segFst; rw [hH, hN]
    have EB : Hid (segEnd y b = ⟨#[0, 0]⟩ ++ y ++ b) := rfl
    rw [hH, hM]
    have zp := segPs_le x z M
    have e0 : segPs x z M = pseudo (putW x 4) (putW z 4) (putW M 2) := rfl
    rw [← e0] at CP
    clear e0
    obtain ⟨P, hP⟩ : ∃ P, segPs x z M = P := ⟨_, rfl⟩
    rw [hP] at CP zp ⊢
    clear hP
    have hw1 : IntKind.i64.wrap (20 + (y.size : Int)) = (H : Int) := by rw [IntKind.wrap_i64]; omega
    have hw2 : IntKind.i64.wrap ((H : Int) + (b.size : Int)) = (M : Int) := by rw [IntKind.wrap_i64]; omega
    by_cases hp : P = ⟨#[]⟩
    · subst hp
      rw [segAll_no]
      go_enter Try.func13, Try.ntmps13
      go_wp2_with fail
      refine (C1.out _).mono ?_
      rintro e w1 ⟨rfl, hb1⟩
      have B1 := Lib.hid (((Below.refl w.heap.size w).alloc (Nat.le_refl _) _).trans (hb1.mono (by simp)))
      have K1 := Lib.hid ((HasC.new w #[.int .i64 p, .int .i64 d, .int .i64 q, .int .i64 a, .int .i64 g, .int .i64 n, .int .i64 m, .int .i64 c, .bool k, .bool t, .int .i64 v, .int .i64 u, .string b] 27).keep hb1)
      clear hb1
      obtain ⟨c6, c7, c8, c9, c10, c11⟩ : _ ∧ _ ∧ _ ∧ _ ∧ _ ∧ _ := ⟨K1.out.at 6 rfl, K1.out.at 7 rfl, K1.out.at 8 rfl, K1.out.at 9 rfl, K1.out.at 10 rfl, K1.out.at 11 rfl⟩
      have hg := K1.out.1
      go_wp2_with fail
      refine (CO.out _).mono ?_
      rintro e w2 ⟨rfl, hb2⟩
      have B2 := Lib.hid (B1.out.trans (hb2.mono B1.out.size))
      have K2 := Lib.hid (K1.out.keep hb2)
      clear hb2 B1 K1 c6 c7 c8 c9 c10 c11 hg
      have c12 := K2.out.at 12 rfl
      have hg := K2.out.1
      go_wp2_with fail
      refine (CP.out _).mono ?_
      rintro e w3 ⟨rfl, hb3⟩
      have B3 := Lib.hid (B2.out.trans (hb3.mono B2.out.size))
      have K3 := Lib.hid (K2.out.keep hb3)
      clear hb3 B2 K2 c12 hg
      go_wp2_with fail
      go_ret
      exact ⟨rfl, B3.out⟩
    · have ep := empty_no hp
      rw [segAll_yes _ _ hp]
      clear hp
      have P1 := Lib.hid (putWordS p 2)
      have zy1 := putW_le p 2
      have P2 := Lib.hid (putWordS d 2)
      have zy2 := putW_le d 2
      have P3 := Lib.hid (putWordS q 4)
      have zy3 := putW_le q 4
      have P4 := Lib.hid (putWordS a 4)
      have zy4 := putW_le a 4
      have P5 := Lib.hid (putWordS (N : Int) 1)
      have zy5 := putW_le (N : Int) 1
      have P6 := Lib.hid (putWordS g 1)
      have zy6 := putW_le g 1
      have P7 := Lib.hid (putWordS n 2)
      have zy7 := putW_le n 2
      obtain ⟨y1, hy1⟩ : ∃ y, putW p 2 = y := ⟨_, rfl⟩
      rw [hy1] at P1 zy1 EA
      clear hy1
      obtain ⟨y2, hy2⟩ : ∃ y, putW d 2 = y := ⟨_, rfl⟩
      rw [hy2] at P2 zy2 EA
      clear hy2
      obtain ⟨y3, hy3⟩ : ∃ y, putW q 4 = y := ⟨_, rfl⟩
      rw [hy3] at P3 zy3 EA
      clear hy3
      obtain ⟨y4, hy4⟩ : ∃ y, putW a 4 = y := ⟨_, rfl⟩
      rw [hy4] at P4 zy4 EA
      clear hy4
      obtain ⟨y5, hy5⟩ : ∃ y, putW (N : Int) 1 = y := ⟨_, rfl⟩
      rw [hy5] at P5 zy5 EA
      clear hy5
      obtain ⟨y6, hy6⟩ : ∃ y, putW g 1 = y := ⟨_, rfl⟩
      rw [hy6] at P6 zy6 EA
      clear hy6
      obtain ⟨y7, hy7⟩ : ∃ y, putW n 2 = y := ⟨_, rfl⟩
      rw [hy7] at P7 zy7 EA
      clear hy7
      obtain ⟨A, hA⟩ : ∃ A, segFst ⟨p, d, q, a, g, n, ⟨m, c, k, t, v, u⟩, b⟩ y = A := ⟨_, rfl⟩
      obtain ⟨E, hE⟩ : ∃ E, segEnd y b = E := ⟨_, rfl⟩
      rw [hA] at EA
      rw [hE] at EB
      rw [hA, hE]
      clear hA hE
      have zA : A.size ≤ 42 := by rw [EA.out]; simp only [ByteArray.size_append]; omega
      have zE : E.size ≤ 1442 := by rw [EB.out]; simp only [ByteArray.size_append]; show 2 + y.size + b.size ≤ _; omega
      have SO := Lib.hid (sumOfS (P ++ A ++ ⟨#[0, 0]⟩ ++ E) (by simp only [ByteArray.size_append]; show P.size + A.size + 2 + E.size ≤ _; omega))
      have P8 := Lib.hid (putWordS (sumOf (P ++ A ++ ⟨#[0, 0]⟩ ++ E)) 2)
      have z8 := putW_le (sumOf (P ++ A ++ ⟨#[0, 0]⟩ ++ E)) 2
      obtain ⟨f, hf⟩ : ∃ f, sumOf (P ++ A ++ ⟨#[0, 0]⟩ ++ E) = f := ⟨_, rfl⟩
      rw [hf] at SO P8 z8 ⊢
      clear hf
      obtain ⟨l, hl⟩ : ∃ l, putW f 2 = l := ⟨_, rfl⟩
      rw [hl] at P8 z8 ⊢
      clear hl
      have hq1 : IntKind.i64.wrap ((H : Int) / 4) = (H : Int) / 4 := by rw [IntKind.wrap_i64]; omega
      have hq2 : IntKind.i64.wrap ((H : Int) / 4 * 16) = (N : Int) := by rw [IntKind.wrap_i64]; omega
      have m0 : ¬ 9223372036854775807 < y1.size + y2.size := by omega
      have m1 : ¬ 9223372036854775807 < y1.size + y2.size + y3.size := by omega
      have m2 : ¬ 9223372036854775807 < y1.size + y2.size + y3.size + y4.size := by omega
      have m3 : ¬ 9223372036854775807 < y1.size + y2.size + y3.size + y4.size + y5.size := by omega
      have m4 : ¬ 9223372036854775807 < y1.size + y2.size + y3.size + y4.size + y5.size + y6.size := by omega
      have m5 : ¬ 9223372036854775807 < y1.size + y2.size + y3.size + y4.size + y5.size + y6.size + y7.size := by omega
      have m6 : ¬ 9223372036854775807 < 2 + y.size := by omega
      have m7 : ¬ 9223372036854775807 < 2 + y.size + b.size := by omega
      have m8 : ¬ 9223372036854775807 < P.size + A.size := by omega
      have m9 : ¬ 9223372036854775807 < P.size + A.size + 2 := by omega
      have m10 : ¬ 9223372036854775807 < P.size + A.size + 2 + E.size := by omega
      have m11 : ¬ 9223372036854775807 < P.size + A.size + 2 + (2 + y.size + b.size) := by omega
      have m12 : ¬ 9223372036854775807 < A.size + l.size := by omega
      have m13 : ¬ 9223372036854775807 < A.size + l.size + E.size := by omega
      clear zy1 zy2 zy3 zy4 zy5 zy6 zy7 zA zE z8 zp hz yz1 yz2 hH hM hN
      go_enter Try.func13, Try.ntmps13
      go_wp2_with fail
      refine (C1.out _).mono ?_
      rintro e w1 ⟨rfl, hb1⟩
      have B1 := Lib.hid (((Below.refl w.heap.size w).alloc (Nat.le_refl _) _).trans (hb1.mono (by simp)))
      have K1 := Lib.hid ((HasC.new w #[.int .i64 p, .int .i64 d, .int .i64 q, .int .i64 a, .int .i64 g, .int .i64 n, .int .i64 m, .int .i64 c, .bool k, .bool t, .int .i64 v, .int .i64 u, .string b] 27).keep hb1)
      clear hb1
      obtain ⟨c6, c7, c8, c9, c10, c11⟩ : _ ∧ _ ∧ _ ∧ _ ∧ _ ∧ _ := ⟨K1.out.at 6 rfl, K1.out.at 7 rfl, K1.out.at 8 rfl, K1.out.at 9 rfl, K1.out.at 10 rfl, K1.out.at 11 rfl⟩
      have hg := K1.out.1
      go_wp2_with fail
      refine (CO.out _).mono ?_
      rintro e w2 ⟨rfl, hb2⟩
      have B2 := Lib.hid (B1.out.trans (hb2.mono B1.out.size))
      have K2 := Lib.hid (K1.out.keep hb2)
      clear hb2 B1 K1 c6 c7 c8 c9 c10 c11 hg
      have c12 := K2.out.at 12 rfl
      have hg := K2.out.1
      go_wp2_with fail
      refine (CP.out _).mono ?_
      rintro e w3 ⟨rfl, hb3⟩
      have B3 := Lib.hid (B2.out.trans (hb3.mono B2.out.size))
      have K3 := Lib.hid (K2.out.keep hb3)
      clear hb3 B2 K2 c12 hg
      obtain ⟨c0, c1, c2, c3, c4, c5⟩ : _ ∧ _ ∧ _ ∧ _ ∧ _ ∧ _ := ⟨K3.out.at 0 rfl, K3.out.at 1 rfl, K3.out.at 2 rfl, K3.out.at 3 rfl, K3.out.at 4 rfl, K3.out.at 5 rfl⟩
      have hg := K3.out.1
      go_wp2_with fail
      go_region_held3 (fun w' => w.heap.size < w'.heap.size ∧ w'.cell? ⟨w.heap.size, 0, none⟩ = some (.int .i64 p) ∧ w'.cell? ⟨w.heap.size, 1, none⟩ = some (.int .i64 d) ∧ w'.cell? ⟨w.heap.size, 2, none⟩ = some (.int .i64 q) ∧ w'.cell? ⟨w.heap.size, 3, none⟩ = some (.int .i64 a) ∧ w'.cell? ⟨w.heap.size, 4, none⟩ = some (.int .i64 g) ∧ w'.cell? ⟨w.heap.size, 5, none⟩ = some (.int .i64 n))
        (first | (exact keep6 (by assumption) hb10) | (exact keep6 (by assumption) hb9) | (exact keep6 (by assumption) hb8) | (exact keep6 (by assumption) hb7) | (exact keep6 (by assumption) hb6) | (exact keep6 (by assumption) hb5) | (exact keep6 (by assumption) hb4) | go_keep)
        ((go_at_call 40; first | ((with_reducible refine (P1.out _).mono ?_); rintro e w4 ⟨rfl, hb4⟩) | ((with_reducible refine (P2.out _).mono ?_); rintro e w5 ⟨rfl, hb5⟩) | ((with_reducible refine (P3.out _).mono ?_); rintro e w6 ⟨rfl, hb6⟩) | ((with_reducible refine (P4.out _).mono ?_); rintro e w7 ⟨rfl, hb7⟩) | ((with_reducible refine (P5.out _).mono ?_); rintro e w8 ⟨rfl, hb8⟩) | ((with_reducible refine (P6.out _).mono ?_); rintro e w9 ⟨rfl, hb9⟩) | ((with_reducible refine (P7.out _).mono ?_); rintro e w10 ⟨rfl, hb10⟩)))
      have Bhb4 := Lib.hid (B3.out.drew.trans (hb4.mono (B3.out.drew).size))
      have Bhb5 := Lib.hid (Bhb4.out.trans (hb5.mono (Bhb4.out).size))
      have Bhb6 := Lib.hid (Bhb5.out.trans (hb6.mono (Bhb5.out).size))
      have Bhb7 := Lib.hid (Bhb6.out.trans (hb7.mono (Bhb6.out).size))
      have Bhb8 := Lib.hid (Bhb7.out.trans (hb8.mono (Bhb7.out).size))
      have Bhb9 := Lib.hid (Bhb8.out.trans (hb9.mono (Bhb8.out).size))
      have Bhb10 := Lib.hid (Bhb9.out.trans (hb10.mono (Bhb9.out).size))
      have K4 := Lib.hid ((((((((K3.out.drew).keep hb4).keep hb5).keep hb6).keep hb7).keep hb8).keep hb9).keep hb10)
      clear c0 c1 c2 c3 c4 c5 hg K3 hb4 hb5 hb6 hb7 hb8 hb9 hb10
      rw [← EA.out]
      clear EA
      have c12 := K4.out.at 12 rfl
      have hg := K4.out.1
      go_wp2_with fail
      rw [← EB.out]
      refine (SO.out _).mono ?_
      rintro e w11 ⟨rfl, rfl⟩
      go_wp2_with fail
      refine (P8.out _).mono ?_
      rintro e w12 ⟨rfl, hb12⟩
      have B12 := Lib.hid (Bhb10.out.trans (hb12.mono Bhb10.out.size))
      clear hb12
      go_wp2_with fail
      go_ret
      exact ⟨rfl, B12.out⟩
end Go.Proofs.Ytlfbcfhekfmkfaa
