/- Places: the model's l4Rest, SeqAdd. Nothing here is a claim. -/
import Derived.Test.YtpbnkkgfjmkcdaaSeqKit
namespace Go.Proofs.Ytpbnkkgfjmkcdaa
open Go.RowKit Go.Lib

theorem wrap64_is (n : Int) : wrap64 n = (n + 9223372036854775808) % 18446744073709551616 - 9223372036854775808 := by
  unfold wrap64; omega
theorem wrap32_is (n : Int) : wrap32 n = (n + 2147483648) % 4294967296 - 2147483648 := by
  unfold wrap32; omega
theorem tmod_is (n m : Int) (h : 0 < m) : n.tmod m = n % m ∨ (n.tmod m = n % m - m ∧ n.tmod m < 0) := by
  rw [Int.tmod_eq_emod]
  have h1 := Int.emod_nonneg n (show m ≠ 0 by omega)
  have h2 := Int.emod_lt_of_pos n h
  split
  · left; omega
  · right; omega

set_option maxHeartbeats 400000 in
theorem restS (n : Int) (w : World) : Calls Try.prog 43 #[.int .i64 n] w fun e w' => e = .returned (.int .i64 (pl n)) ∧ w = w' := by
  go_enter Try.func43, Try.ntmps43
  go_wp2
  · go_ret
    refine ⟨?_, rfl⟩
    have := tmod_is n 4294967296 (by decide)
    have e : wrap64 (n.tmod 4294967296 + 4294967296) = pl n := by rw [wrap64_is]; unfold pl; omega
    rw [e]
    rfl
  · go_ret
    refine ⟨?_, rfl⟩
    have := tmod_is n 4294967296 (by decide)
    have e : n.tmod 4294967296 = pl n := by unfold pl; omega
    rw [e]
    rfl

set_option maxHeartbeats 400000 in
theorem seqAddS (a n : Int) (w : World) : Calls Try.prog 19 #[.int .i64 a, .int .i64 n] w fun e w' => e = .returned (.int .i64 (pl (a + n))) ∧ w = w' := by
  go_enter Try.func19, Try.ntmps19
  go_wp2_with fail
  refine (restS _ _).mono ?_
  rintro e w1 ⟨rfl, rfl⟩
  go_wp2_with fail
  refine (restS _ _).mono ?_
  rintro e w1 ⟨rfl, rfl⟩
  have h1 := pl_bd a
  have h2 := pl_bd n
  go_wp2_with fail
  refine (restS _ _).mono ?_
  rintro e w1 ⟨rfl, rfl⟩
  go_wp2_with fail
  go_ret
  refine ⟨?_, rfl⟩
  have e : pl (pl a + pl n) = pl (a + n) := by unfold pl; omega
  rw [e]
  rfl

end Go.Proofs.Ytpbnkkgfjmkcdaa
