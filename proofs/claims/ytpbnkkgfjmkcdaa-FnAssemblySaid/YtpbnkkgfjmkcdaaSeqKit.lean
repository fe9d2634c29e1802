/- Plain lemmas of chapter 4 of the document: places on the circle. Nothing here is a claim. -/
import Derived.Test.YtpbnkkgfjmkcdaaBase
import Derived.Test.YtpbnkkgfjmkcdaaWhole
namespace Go.Proofs.Ytpbnkkgfjmkcdaa
open Go.RowKit Go.Lib

/-- The place of an int on the circle. -/
def pl (n : Int) : Int := n % 4294967296
/-- What SeqDiff answers. -/
def df (a b : Int) : Int := (a - b + 2147483648) % 4294967296 - 2147483648
theorem pl_bd (n : Int) : 0 ≤ pl n ∧ pl n ≤ 4294967295 := by unfold pl; omega
theorem df_bd (a b : Int) : -2147483648 ≤ df a b ∧ df a b ≤ 2147483647 := by unfold df; omega

theorem and_seq (n : Int) : bits .and .i64 n 4294967295 = n % 4294967296 := by
  have h1 : ((BitVec.ofInt 64 n).toNat : Int) = n % 18446744073709551616 := by
    rw [BitVec.toNat_ofInt]
    have h : (0 : Int) ≤ n % 18446744073709551616 := Int.emod_nonneg _ (by decide)
    exact Int.toNat_of_nonneg h
  have h2 : (BitVec.ofInt 64 (4294967295 : Int)).toNat = 4294967295 := by decide
  have h4 : (BitVec.ofInt 64 n &&& BitVec.ofInt 64 (4294967295 : Int)).toNat = (BitVec.ofInt 64 n).toNat % 4294967296 := by
    rw [BitVec.toNat_and, h2]; exact Nat.and_two_pow_sub_one_eq_mod _ 32
  have h3 : bits .and .i64 n 4294967295 = IntKind.i64.wrap ((BitVec.ofInt 64 n &&& BitVec.ofInt 64 (4294967295 : Int)).toNat : Int) := rfl
  rw [h3, h4, IntKind.wrap_i64]
  omega
end Go.Proofs.Ytpbnkkgfjmkcdaa
