/- Places of a sender, of both sides. Nothing here is a claim. -/
import Derived.Test.YtkigkfedkjnkeaaSndKit
import Derived.Test.YtkigkfedkjnkeaaSeq
import Derived.Test.YtkigkfedkjnkeaaCurA
import Derived.Deep.RegionHeld3
import Derived.Deep.QuietTactic
import Derived.Deep.DeepCutAuto
import Derived.BigQuiet
namespace Go.Proofs.Ytkigkfedkjnkeaa
open Go.RowKit Go.Lib

theorem seqAddI_s (a n : Int) (w : World) : Calls Try.prog 28 #[.int .i64 a, .int .i64 n] w (SndI (pl (a + n)) w) := (seqAddI a n w).mono fun _ _ h => ⟨h.1, by rw [← h.2]; exact Below.refl _ _⟩
theorem seqAddS_s (a n : Int) (w : World) : Calls Try.prog 56 #[.int .i64 a, .int .i64 n] w (SndI (pl (a + n)) w) := (seqAddS a n w).mono fun _ _ h => ⟨h.1, by rw [← h.2]; exact Below.refl _ _⟩
theorem seqDiffI_s (a n : Int) (w : World) : Calls Try.prog 27 #[.int .i64 a, .int .i64 n] w (SndI (df a n) w) := (seqDiffI a n w).mono fun _ _ h => ⟨h.1, by rw [← h.2]; exact Below.refl _ _⟩
theorem seqDiffS_s (a n : Int) (w : World) : Calls Try.prog 60 #[.int .i64 a, .int .i64 n] w (SndI (df a n) w) := (seqDiffS a n w).mono fun _ _ h => ⟨h.1, by rw [← h.2]; exact Below.refl _ _⟩
theorem below_drewN {B : Nat} {a b : World} (h : Below B a b) (n : Nat) : Below B a (b.drewN n) := ⟨h.os, h.tape, h.output, h.size, h.block⟩

set_option maxRecDepth 100000 in
set_option maxHeartbeats 1000000 in
theorem positionI (u : Int) (d : ByteArray) (t : Int) (f g h : Bool) (w : World) : Calls Try.prog 50 #[.agg #[.int .i64 u, .string d, .int .i64 t, .bool f, .bool g, .bool h]] w fun e w' => e = .returned (.agg #[.int .i64 u, .int .i64 (fl t g)]) ∧ Below w.heap.size w w' := by
  unfold fl
  cases g
  · rw [cond_false]
    go_enter Try.func50, Try.ntmps50
    go_wp2
    exact bodyPost_ret (v := .agg #[.int .i64 u, .int .i64 (t)]) (by simp [results, Try.results50, go_sem]) rfl ⟨rfl, (((Below.refl _ _).alloc (Nat.le_refl _) _).alloc (by simp) _).alloc (by simp; omega) _⟩
  · rw [cond_true]
    go_enter Try.func50, Try.ntmps50
    go_wp2
    exact bodyPost_ret (v := .agg #[.int .i64 u, .int .i64 (wrap64 (t + 1))]) (by simp [results, Try.results50, go_sem]) rfl ⟨rfl, (((Below.refl _ _).alloc (Nat.le_refl _) _).alloc (by simp) _).alloc (by simp; omega) _⟩

theorem nextI (a b : Int) (w : World) : Calls Try.prog 51 #[.agg #[.int .i64 a, .int .i64 b]] w (SndI (pl (a + b)) w) := by
  go_enter Try.func51, Try.ntmps51
  go_wp2_with fail
  refine (seqAddI _ _ _).mono ?_
  rintro e w1 ⟨rfl, rfl⟩
  go_wp2_with fail
  go_ret
  exact ⟨rfl, (Below.refl _ _).alloc (Nat.le_refl _) _⟩

theorem roomI (a b x : Int) (w : World) (h0 : 0 ≤ b) (h1 : b ≤ 1000000) (hx : I64 x) : Calls Try.prog 65 #[.agg #[.int .i64 a, .int .i64 b], .int .i64 x] w (SndI (max x 0 - b) w) := by
  unfold I64 at hx
  go_enter Try.func65, Try.ntmps65
  go_wp2_with fail
  go_ret
  exact ⟨rfl, (Below.refl _ _).alloc (Nat.le_refl _) _⟩

theorem passedI (a b x : Int) (w : World) : Calls Try.prog 59 #[.agg #[.int .i64 a, .int .i64 b], .int .i64 x] w fun e w' => e = .returned (.tuple #[.int .i64 (df x a), .bool (decide (0 ≤ df x a ∧ df x a ≤ b))]) ∧ Below w.heap.size w w' := by
  have D := Lib.hid (seqDiffI x a)
  generalize df x a = z at D ⊢
  by_cases h1 : ¬ 0 ≤ z
  · have h1' : decide (0 ≤ z) = false := decide_eq_false h1
    rw [decide_eq_false (show ¬ (0 ≤ z ∧ z ≤ b) by omega)]
    go_enter Try.func59, Try.ntmps59
    go_wp2_with fail
    refine (D.out _).mono ?_
    rintro e w1 ⟨rfl, rfl⟩
    go_wp2_with fail
    go_quiet (fail)
    go_wp2_with fail
    exact bodyPost_ret (v := .tuple #[.int .i64 z, .bool false]) (by simp [results, Try.results59, go_sem]) rfl ⟨rfl, below_drewN ((Below.refl _ _).alloc (Nat.le_refl _) _) _⟩
  have h1 : 0 ≤ z := by omega
  by_cases h2 : ¬ z ≤ b
  · skip
    rw [decide_eq_false (show ¬ (0 ≤ z ∧ z ≤ b) by omega)]
    go_enter Try.func59, Try.ntmps59
    go_wp2_with fail
    refine (D.out _).mono ?_
    rintro e w1 ⟨rfl, rfl⟩
    go_wp2_with fail
    go_quiet (fail)
    go_wp2_with fail
    exact bodyPost_ret (v := .tuple #[.int .i64 z, .bool false]) (by simp [results, Try.results59, go_sem]; omega) rfl ⟨rfl, below_drewN ((Below.refl _ _).alloc (Nat.le_refl _) _) _⟩
  rw [decide_eq_true (show 0 ≤ z ∧ z ≤ b by omega)]
  go_enter Try.func59, Try.ntmps59
  go_wp2_with fail
  refine (D.out _).mono ?_
  rintro e w1 ⟨rfl, rfl⟩
  go_wp2_with fail
  go_quiet (fail)
  go_wp2_with fail
  exact bodyPost_ret (v := .tuple #[.int .i64 z, .bool true]) (by simp [results, Try.results59, go_sem]) rfl ⟨rfl, below_drewN ((Below.refl _ _).alloc (Nat.le_refl _) _) _⟩

theorem nextOfI (u : Int) (d : ByteArray) (t : Int) (f g h : Bool) (w : World) : Calls Try.prog 20 #[.agg #[.int .i64 u, .string d, .int .i64 t, .bool f, .bool g, .bool h]] w (SndI (nxt u t g) w) := by
  have P := Lib.hid (positionI u d t f g h)
  have N := Lib.hid (nextI u (fl t g))
  unfold nxt
  generalize pl (u + fl t g) = z at N ⊢
  generalize fl t g = p at P N
  go_enter Try.func20, Try.ntmps20
  go_wp2_with fail
  refine (P.out _).mono ?_
  rintro e w1 ⟨rfl, hb⟩
  have B1 := Lib.hid (((Below.refl w.heap.size w).alloc (Nat.le_refl _) _).trans (hb.mono (by simp)))
  clear hb
  go_wp2_with fail
  refine (N.out _).mono ?_
  rintro e w2 ⟨rfl, hb⟩
  have B2 := Lib.hid (B1.out.trans (hb.mono B1.out.size))
  clear hb B1
  go_wp2_with fail
  go_ret
  exact ⟨rfl, B2.out⟩

theorem flownS (u : Int) (d : ByteArray) (t : Int) (f g h : Bool) (w : World) : Calls Try.prog 55 #[.agg #[.int .i64 u, .string d, .int .i64 t, .bool f, .bool g, .bool h]] w (SndI (fl t g) w) := by
  unfold fl
  cases g
  · rw [cond_false]
    go_enter Try.func55, Try.ntmps55
    go_wp2
    go_ret
    exact ⟨rfl, (Below.refl _ _).alloc (Nat.le_refl _) _⟩
  · rw [cond_true]
    go_enter Try.func55, Try.ntmps55
    go_wp2
    go_ret
    exact ⟨rfl, (Below.refl _ _).alloc (Nat.le_refl _) _⟩

theorem nextOfS (u : Int) (d : ByteArray) (t : Int) (f g h : Bool) (w : World) : Calls Try.prog 26 #[.agg #[.int .i64 u, .string d, .int .i64 t, .bool f, .bool g, .bool h]] w (SndI (nxt u t g) w) := by
  have P := Lib.hid (flownS u d t f g h)
  have N := Lib.hid (seqAddS_s u (fl t g))
  unfold nxt
  generalize pl (u + fl t g) = z at N ⊢
  generalize fl t g = p at P N
  go_enter Try.func26, Try.ntmps26
  have B0 := Lib.hid (show Below w.heap.size w (w.alloc (.cells #[.int .i64 u, .string d, .int .i64 t, .bool f, .bool g, .bool h] 25)) from ((Below.refl _ w).alloc (by simp) _))
  have Ks0 := Lib.hid (show Blk (w.alloc (.cells #[.int .i64 u, .string d, .int .i64 t, .bool f, .bool g, .bool h] 25)) (w.heap.size) [.int .i64 u, .string d, .int .i64 t, .bool f, .bool g, .bool h] from Blk.new w [.int .i64 u, .string d, .int .i64 t, .bool f, .bool g, .bool h] 25)
  go_upto_region 1 with fail
  generalize w.alloc (.cells #[.int .i64 u, .string d, .int .i64 t, .bool f, .bool g, .bool h] 25) = v0 at B0 Ks0 ⊢
  generalize w.heap.size = g_s at Ks0 ⊢
  obtain ⟨⟨cs0, cs1, cs2, cs3, cs4, cs5⟩, ds0, ds1, ds2, ds3, ds4, ds5⟩ := Ks0.out.of6
  have P0_0 : True := trivial
  have P0_1 : True := trivial
  go_region_held3 (fun w' => (w'.cell? ⟨g_s, 0, none⟩ = some (.int .i64 u) ∧ w'.cell? ⟨g_s, 1, none⟩ = some (.string d) ∧ w'.cell? ⟨g_s, 2, none⟩ = some (.int .i64 t) ∧ w'.cell? ⟨g_s, 3, none⟩ = some (.bool f) ∧ w'.cell? ⟨g_s, 4, none⟩ = some (.bool g) ∧ w'.cell? ⟨g_s, 5, none⟩ = some (.bool h)))
    (first | go_keep | (exact Ks1.out.of6.1) | (exact Ks2.out.of6.1))
    (first | (have q := P0_0; go_at_call 55; clear q P0_0; refine (P.out _).mono ?_; rintro e v1 ⟨rfl, hb⟩; replace hb := (Below.refl _ v0).drew.trans hb; have B1 := Lib.hid (B0.out.trans (hb.mono B0.out.size)); have Ks1 := Lib.hid (Ks0.out.below hb); clear hb B0 Ks0) | (have q := P0_1; go_at_call 56; clear q P0_1; refine (N.out _).mono ?_; rintro e v2 ⟨rfl, hb⟩; have B2 := Lib.hid (B1.out.trans (hb.mono B1.out.size)); have Ks2 := Lib.hid (Ks1.out.below hb); clear hb B1 Ks1))
  try clear cs0 cs1 cs2 cs3 cs4 cs5 ds0 ds1 ds2 ds3 ds4 ds5
  go_wp2_with fail
  go_ret
  exact ⟨rfl, B2.out⟩
end Go.Proofs.Ytkigkfedkjnkeaa
