/- Two arrays of eight bytes compared: hardware addresses. Nothing here is a claim. -/
import Derived.Test.YtkkimgjcefojdaaHardware
import Derived.DeepKeys
namespace Go.Proofs.Ytkkimgjcefojdaa
open Go.RowKit Go.Lib

theorem cells5 : Try.prog.cellsOf 5 = 1 := by kernel_rfl

theorem wf_u8 (n : Int) : (Lit.int .u8 (n % 256)).wf = true := by
  have h1 := Int.emod_nonneg n (show (256 : Int) ≠ 0 by decide)
  have h2 := Int.emod_lt_of_pos n (show (0 : Int) < 256 by decide)
  have e1 : IntKind.u8.min = 0 := by decide
  have e2 : IntKind.u8.max = 255 := by decide
  simp only [Lit.wf, e1, e2, Bool.and_eq_true, decide_eq_true_eq]
  omega

theorem hw_inj (a b : Int) (ha : -9223372036854775808 ≤ a ∧ a ≤ 9223372036854775807) (hb : -9223372036854775808 ≤ b ∧ b ≤ 9223372036854775807)
    (h0 : a / 72057594037927936 % 256 = b / 72057594037927936 % 256) (h1 : a / 281474976710656 % 256 = b / 281474976710656 % 256) (h2 : a / 1099511627776 % 256 = b / 1099511627776 % 256) (h3 : a / 4294967296 % 256 = b / 4294967296 % 256)
    (h4 : a / 16777216 % 256 = b / 16777216 % 256) (h5 : a / 65536 % 256 = b / 65536 % 256) (h6 : a / 256 % 256 = b / 256 % 256) (h7 : a % 256 = b % 256) : a = b := by
  have e6 : a % 65536 = b % 65536 := by omega
  have e5 : a % 16777216 = b % 16777216 := by omega
  have e4 : a % 4294967296 = b % 4294967296 := by omega
  have e3 : a % 1099511627776 = b % 1099511627776 := by omega
  have e2 : a % 281474976710656 = b % 281474976710656 := by omega
  have e1 : a % 72057594037927936 = b % 72057594037927936 := by omega
  omega

end Go.Proofs.Ytkkimgjcefojdaa
