/- Chapter 4, both sides: SeqAdd, SeqDiff, SeqBelow, SeqUpTo, InWindow. -/
import Derived.Test.YtfhdjefdbjnccaaSeqKit
namespace Go.Proofs.Ytfhdjefdbjnccaa
open Go.RowKit Go.Lib

theorem wrap64_is (n : Int) : wrap64 n = (n + 9223372036854775808) % 18446744073709551616 - 9223372036854775808 := by
  unfold wrap64; omega
theorem wrap32_is (n : Int) : wrap32 n = (n + 2147483648) % 4294967296 - 2147483648 := by
  unfold wrap32; omega
theorem tmod_is (n m : Int) (h : 0 < m) : n.tmod m = n % m ∨ (n.tmod m = n % m - m ∧ n.tmod m < 0) := by
  rw [Int.tmod_eq_emod]
  have h1 := Int.emod_nonneg n (show m ≠ 0 by omega)
  have h2 := Int.emod_lt_of_pos n h
  split
  · left; omega
  · right; omega

set_option maxHeartbeats 400000 in
theorem restS (n : Int) (w : World) : Calls Try.prog 33 #[.int .i64 n] w fun e w' => e = .returned (.int .i64 (pl n)) ∧ w = w' := by
  go_enter Try.func33, Try.ntmps33
  go_wp2
  · go_ret
    refine ⟨?_, rfl⟩
    have := tmod_is n 4294967296 (by decide)
    have e : wrap64 (n.tmod 4294967296 + 4294967296) = pl n := by rw [wrap64_is]; unfold pl; omega
    rw [e]
    rfl
  · go_ret
    refine ⟨?_, rfl⟩
    have := tmod_is n 4294967296 (by decide)
    have e : n.tmod 4294967296 = pl n := by unfold pl; omega
    rw [e]
    rfl

set_option maxHeartbeats 400000 in
theorem seqAddI (a n : Int) (w : World) : Calls Try.prog 14 #[.int .i64 a, .int .i64 n] w fun e w' => e = .returned (.int .i64 (pl (a + n))) ∧ w = w' := by
  go_enter Try.func14, Try.ntmps14
  go_wp2
  go_ret
  refine ⟨?_, rfl⟩
  have e : bits BinOp.and IntKind.i64 (wrap64 (a + n)) 4294967295 = pl (a + n) := by rw [and_seq, wrap64_is]; unfold pl; omega
  rw [e]
  rfl

set_option maxHeartbeats 400000 in
theorem seqDiffI (a b : Int) (w : World) : Calls Try.prog 16 #[.int .i64 a, .int .i64 b] w fun e w' => e = .returned (.int .i64 (df a b)) ∧ w = w' := by
  go_enter Try.func16, Try.ntmps16
  go_wp2
  go_ret
  refine ⟨?_, rfl⟩
  have e : wrap64 (wrap32 (wrap64 (a - b))) = df a b := by rw [wrap64_is, wrap32_is, wrap64_is]; unfold df; omega
  rw [e]
  rfl

set_option maxHeartbeats 400000 in
theorem seqAddS (a n : Int) (w : World) : Calls Try.prog 15 #[.int .i64 a, .int .i64 n] w fun e w' => e = .returned (.int .i64 (pl (a + n))) ∧ w = w' := by
  go_enter Try.func15, Try.ntmps15
  go_wp2_with fail
  refine (restS _ _).mono ?_
  rintro e w1 ⟨rfl, rfl⟩
  go_wp2_with fail
  refine (restS _ _).mono ?_
  rintro e w1 ⟨rfl, rfl⟩
  have h1 := pl_bd a
  have h2 := pl_bd n
  go_wp2_with fail
  refine (restS _ _).mono ?_
  rintro e w1 ⟨rfl, rfl⟩
  go_wp2_with fail
  go_ret
  refine ⟨?_, rfl⟩
  have e : pl (pl a + pl n) = pl (a + n) := by unfold pl; omega
  rw [e]
  rfl

set_option maxHeartbeats 400000 in
theorem seqDiffS (a b : Int) (w : World) : Calls Try.prog 28 #[.int .i64 a, .int .i64 b] w fun e w' => e = .returned (.int .i64 (df a b)) ∧ w = w' := by
  obtain ⟨d, hd⟩ : ∃ d, Hid (pl (pl a - pl b) = d) := ⟨_, Lib.hid rfl⟩
  have h3 : 0 ≤ d ∧ d ≤ 4294967295 := by rw [← hd.out]; exact pl_bd _
  by_cases h : 2147483647 < d
  · rw [show df a b = d - 4294967296 by have := hd.out; unfold pl at this; unfold df; omega]
    go_enter Try.func28, Try.ntmps28
    go_wp2_with fail
    refine (restS _ _).mono ?_
    rintro e w1 ⟨rfl, rfl⟩
    go_wp2_with fail
    refine (restS _ _).mono ?_
    rintro e w1 ⟨rfl, rfl⟩
    have h1 := pl_bd a
    have h2 := pl_bd b
    go_wp2_with fail
    refine (restS _ _).mono ?_
    rintro e w1 ⟨rfl, rfl⟩
    rw [hd.out]
    go_wp2_with fail
    go_ret
    exact ⟨rfl, rfl⟩
  · rw [show df a b = d by have := hd.out; unfold pl at this; unfold df; omega]
    go_enter Try.func28, Try.ntmps28
    go_wp2_with fail
    refine (restS _ _).mono ?_
    rintro e w1 ⟨rfl, rfl⟩
    go_wp2_with fail
    refine (restS _ _).mono ?_
    rintro e w1 ⟨rfl, rfl⟩
    have h1 := pl_bd a
    have h2 := pl_bd b
    go_wp2_with fail
    refine (restS _ _).mono ?_
    rintro e w1 ⟨rfl, rfl⟩
    rw [hd.out]
    go_wp2_with fail
    go_ret
    exact ⟨rfl, rfl⟩

set_option maxHeartbeats 400000 in
theorem seqBelowS (a b : Int) (w : World) : Calls Try.prog 21 #[.int .i64 a, .int .i64 b] w fun e w' => e = .returned (.bool (decide (df a b < 0))) ∧ w = w' := by
  go_enter Try.func21, Try.ntmps21
  go_wp2_with fail
  refine (seqDiffS _ _ _).mono ?_
  rintro e w1 ⟨rfl, rfl⟩
  go_wp2
  go_ret
  exact ⟨rfl, rfl⟩

set_option maxHeartbeats 400000 in
theorem seqUpToS (a b : Int) (w : World) : Calls Try.prog 29 #[.int .i64 a, .int .i64 b] w fun e w' => e = .returned (.bool (decide (df a b ≤ 0))) ∧ w = w' := by
  go_enter Try.func29, Try.ntmps29
  go_wp2_with fail
  refine (seqDiffS _ _ _).mono ?_
  rintro e w1 ⟨rfl, rfl⟩
  go_wp2
  go_ret
  exact ⟨rfl, rfl⟩

/-- What orderOf answers. -/
def ordOf (a b : Int) : Int := if df a b < 0 then 0 else if 0 < df a b then 2 else 1
set_option maxHeartbeats 400000 in
theorem orderI (a b : Int) (w : World) : Calls Try.prog 35 #[.int .i64 a, .int .i64 b] w fun e w' => e = .returned (.int .i64 (ordOf a b)) ∧ w = w' := by
  go_enter Try.func35, Try.ntmps35
  go_wp2_with fail
  refine (seqDiffI _ _ _).mono ?_
  rintro e w1 ⟨rfl, rfl⟩
  have hb := df_bd a b
  go_wp2
  all_goals go_ret
  all_goals unfold ordOf
  · rw [if_pos (by omega)]; exact ⟨rfl, rfl⟩
  · rw [if_neg (by omega), if_pos (by omega)]; exact ⟨rfl, rfl⟩
  · rw [if_neg (by omega), if_neg (by omega)]; exact ⟨rfl, rfl⟩

set_option maxHeartbeats 400000 in
theorem seqBelowI (a b : Int) (w : World) : Calls Try.prog 20 #[.int .i64 a, .int .i64 b] w fun e w' => e = .returned (.bool (decide (df a b < 0))) ∧ w = w' := by
  rcases Int.lt_trichotomy (df a b) 0 with h | h | h
  · have C := Lib.hid (orderI a b)
    rw [show ordOf a b = 0 by unfold ordOf; repeat (first | rw [if_pos (by omega)] | rw [if_neg (by omega)])] at C
    rw [show decide (df a b < 0) = true by simp; omega]
    clear h
    go_enter Try.func20, Try.ntmps20
    go_wp2_with fail
    refine (C.out _).mono ?_
    rintro e w1 ⟨rfl, rfl⟩
    go_wp2
    go_ret
    exact ⟨rfl, rfl⟩
  · have C := Lib.hid (orderI a b)
    rw [show ordOf a b = 1 by unfold ordOf; repeat (first | rw [if_pos (by omega)] | rw [if_neg (by omega)])] at C
    rw [show decide (df a b < 0) = false by simp; omega]
    clear h
    go_enter Try.func20, Try.ntmps20
    go_wp2_with fail
    refine (C.out _).mono ?_
    rintro e w1 ⟨rfl, rfl⟩
    go_wp2
    go_ret
    exact ⟨rfl, rfl⟩
  · have C := Lib.hid (orderI a b)
    rw [show ordOf a b = 2 by unfold ordOf; repeat (first | rw [if_pos (by omega)] | rw [if_neg (by omega)])] at C
    rw [show decide (df a b < 0) = false by simp; omega]
    clear h
    go_enter Try.func20, Try.ntmps20
    go_wp2_with fail
    refine (C.out _).mono ?_
    rintro e w1 ⟨rfl, rfl⟩
    go_wp2
    go_ret
    exact ⟨rfl, rfl⟩

set_option maxHeartbeats 400000 in
theorem seqUpToI (a b : Int) (w : World) : Calls Try.prog 22 #[.int .i64 a, .int .i64 b] w fun e w' => e = .returned (.bool (decide (df a b ≤ 0))) ∧ w = w' := by
  rcases Int.lt_trichotomy (df a b) 0 with h | h | h
  · have C := Lib.hid (orderI a b)
    rw [show ordOf a b = 0 by unfold ordOf; repeat (first | rw [if_pos (by omega)] | rw [if_neg (by omega)])] at C
    rw [show decide (df a b ≤ 0) = true by simp; omega]
    clear h
    go_enter Try.func22, Try.ntmps22
    go_wp2_with fail
    refine (C.out _).mono ?_
    rintro e w1 ⟨rfl, rfl⟩
    go_wp2
    go_ret
    exact ⟨rfl, rfl⟩
  · have C := Lib.hid (orderI a b)
    rw [show ordOf a b = 1 by unfold ordOf; repeat (first | rw [if_pos (by omega)] | rw [if_neg (by omega)])] at C
    rw [show decide (df a b ≤ 0) = true by simp; omega]
    clear h
    go_enter Try.func22, Try.ntmps22
    go_wp2_with fail
    refine (C.out _).mono ?_
    rintro e w1 ⟨rfl, rfl⟩
    go_wp2
    go_ret
    exact ⟨rfl, rfl⟩
  · have C := Lib.hid (orderI a b)
    rw [show ordOf a b = 2 by unfold ordOf; repeat (first | rw [if_pos (by omega)] | rw [if_neg (by omega)])] at C
    rw [show decide (df a b ≤ 0) = false by simp; omega]
    clear h
    go_enter Try.func22, Try.ntmps22
    go_wp2_with fail
    refine (C.out _).mono ?_
    rintro e w1 ⟨rfl, rfl⟩
    go_wp2
    go_ret
    exact ⟨rfl, rfl⟩

/-- What InWindow answers. -/
def inW (x f s : Int) : Bool := decide (pl (x - f) < s)
set_option maxHeartbeats 400000 in
theorem inWindowI (x f s : Int) (w : World) : Calls Try.prog 26 #[.int .i64 x, .int .i64 f, .int .i64 s] w fun e w' => e = .returned (.bool (inW x f s)) ∧ w = w' := by
  have e : inW x f s = decide (pl (x + wrap64 (-f)) < s) := by unfold inW; rw [show pl (x + wrap64 (-f)) = pl (x - f) by rw [wrap64_is]; unfold pl; omega]
  rw [e]
  clear e
  go_enter Try.func26, Try.ntmps26
  go_wp2_with fail
  refine (seqAddI _ _ _).mono ?_
  rintro e w1 ⟨rfl, rfl⟩
  go_wp2
  go_ret
  exact ⟨rfl, rfl⟩

set_option maxHeartbeats 400000 in
theorem inWindowS (x f s : Int) (w : World) : Calls Try.prog 27 #[.int .i64 x, .int .i64 f, .int .i64 s] w fun e w' => e = .returned (.bool (inW x f s)) ∧ w = w' := by
  by_cases h : 0 < s
  · rw [show inW x f s = decide (pl (pl x - pl f) < s) by unfold inW pl; rw [show (x % 4294967296 - f % 4294967296) % 4294967296 = (x - f) % 4294967296 by omega]]
    go_enter Try.func27, Try.ntmps27
    go_wp2_with fail
    refine (restS _ _).mono ?_
    rintro e w1 ⟨rfl, rfl⟩
    go_wp2_with fail
    refine (restS _ _).mono ?_
    rintro e w1 ⟨rfl, rfl⟩
    have h1 := pl_bd x
    have h2 := pl_bd f
    go_wp2_with fail
    refine (restS _ _).mono ?_
    rintro e w1 ⟨rfl, rfl⟩
    go_wp2_with fail
    go_ret
    exact ⟨rfl, rfl⟩
  · rw [show inW x f s = false by have := pl_bd (x - f); unfold inW; rw [decide_eq_false (by omega)]]
    go_enter Try.func27, Try.ntmps27
    go_wp2_with fail
    go_ret
    exact ⟨rfl, rfl⟩
end Go.Proofs.Ytfhdjefdbjnccaa
