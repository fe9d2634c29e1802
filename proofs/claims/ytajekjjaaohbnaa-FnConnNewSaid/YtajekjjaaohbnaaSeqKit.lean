/- Plain lemmas of chapter 4 of the document: places on the circle. Nothing here is a claim. -/
import Derived.Test.YtajekjjaaohbnaaBase
import Derived.Test.YtajekjjaaohbnaaCurA
namespace Go.Proofs.Ytajekjjaaohbnaa
open Go.RowKit Go.Lib

/-- The place of an int on the circle. -/
def pl (n : Int) : Int := n % 4294967296
/-- What SeqDiff answers. -/
def df (a b : Int) : Int := (a - b + 2147483648) % 4294967296 - 2147483648
theorem pl_bd (n : Int) : 0 ≤ pl n ∧ pl n ≤ 4294967295 := by unfold pl; omega
theorem df_bd (a b : Int) : -2147483648 ≤ df a b ∧ df a b ≤ 2147483647 := by unfold df; omega

theorem and_seq (n : Int) : bits .and .i64 n 4294967295 = n % 4294967296 := by
  have h1 : ((BitVec.ofInt 64 n).toNat : Int) = n % 18446744073709551616 := by
    rw [BitVec.toNat_ofInt]
    have h : (0 : Int) ≤ n % 18446744073709551616 := Int.emod_nonneg _ (by decide)
    exact Int.toNat_of_nonneg h
  have h2 : (BitVec.ofInt 64 (4294967295 : Int)).toNat = 4294967295 := by decide
  have h4 : (BitVec.ofInt 64 n &&& BitVec.ofInt 64 (4294967295 : Int)).toNat = (BitVec.ofInt 64 n).toNat % 4294967296 := by
    rw [BitVec.toNat_and, h2]; exact Nat.and_two_pow_sub_one_eq_mod _ 32
  have h3 : bits .and .i64 n 4294967295 = IntKind.i64.wrap ((BitVec.ofInt 64 n &&& BitVec.ofInt 64 (4294967295 : Int)).toNat : Int) := rfl
  rw [h3, h4, IntKind.wrap_i64]
  omega
end Go.Proofs.Ytajekjjaaohbnaa
namespace Go.Proofs.Ytajekjjaaohbnaa
open Go.RowKit Go.Lib

theorem wrap64_is (n : Int) : wrap64 n = (n + 9223372036854775808) % 18446744073709551616 - 9223372036854775808 := by
  unfold wrap64; omega
theorem wrap32_is (n : Int) : wrap32 n = (n + 2147483648) % 4294967296 - 2147483648 := by
  unfold wrap32; omega
theorem tmod_is (n m : Int) (h : 0 < m) : n.tmod m = n % m ∨ (n.tmod m = n % m - m ∧ n.tmod m < 0) := by
  rw [Int.tmod_eq_emod]
  have h1 := Int.emod_nonneg n (show m ≠ 0 by omega)
  have h2 := Int.emod_lt_of_pos n h
  split
  · left; omega
  · right; omega

set_option maxHeartbeats 400000 in
theorem restS (n : Int) (w : World) : Calls Try.prog 59 #[.int .i64 n] w fun e w' => e = .returned (.int .i64 (pl n)) ∧ w = w' := by
  go_enter Try.func59, Try.ntmps59
  go_wp2
  · go_ret
    refine ⟨?_, rfl⟩
    have := tmod_is n 4294967296 (by decide)
    have e : wrap64 (n.tmod 4294967296 + 4294967296) = pl n := by rw [wrap64_is]; unfold pl; omega
    rw [e]
    rfl
  · go_ret
    refine ⟨?_, rfl⟩
    have := tmod_is n 4294967296 (by decide)
    have e : n.tmod 4294967296 = pl n := by unfold pl; omega
    rw [e]
    rfl

set_option maxHeartbeats 400000 in
theorem seqAddS (a n : Int) (w : World) : Calls Try.prog 18 #[.int .i64 a, .int .i64 n] w fun e w' => e = .returned (.int .i64 (pl (a + n))) ∧ w = w' := by
  go_enter Try.func18, Try.ntmps18
  go_wp2_with fail
  refine (restS _ _).mono ?_
  rintro e w1 ⟨rfl, rfl⟩
  go_wp2_with fail
  refine (restS _ _).mono ?_
  rintro e w1 ⟨rfl, rfl⟩
  have h1 := pl_bd a
  have h2 := pl_bd n
  go_wp2_with fail
  refine (restS _ _).mono ?_
  rintro e w1 ⟨rfl, rfl⟩
  go_wp2_with fail
  go_ret
  refine ⟨?_, rfl⟩
  have e : pl (pl a + pl n) = pl (a + n) := by unfold pl; omega
  rw [e]
  rfl

end Go.Proofs.Ytajekjjaaohbnaa
namespace Go.Proofs.Ytajekjjaaohbnaa
open Go.RowKit Go.Lib

set_option maxHeartbeats 400000 in
theorem seqAddI (a n : Int) (w : World) : Calls Try.prog 43 #[.int .i64 a, .int .i64 n] w fun e w' => e = .returned (.int .i64 (pl (a + n))) ∧ w = w' := by
  go_enter Try.func43, Try.ntmps43
  go_wp2
  go_ret
  refine ⟨?_, rfl⟩
  have e : bits BinOp.and IntKind.i64 (wrap64 (a + n)) 4294967295 = pl (a + n) := by rw [and_seq, wrap64_is]; unfold pl; omega
  rw [e]
  rfl

/-- What orderOf answers. -/
def ordOf (a b : Int) : Int := if df a b < 0 then 0 else if 0 < df a b then 2 else 1
/-- What InWindow answers. -/
def inW (x f s : Int) : Bool := decide (pl (x - f) < s)
end Go.Proofs.Ytajekjjaaohbnaa
