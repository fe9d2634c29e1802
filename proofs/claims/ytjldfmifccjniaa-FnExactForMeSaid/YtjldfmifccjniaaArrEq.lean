/- Two arrays of eight bytes compared: hardware addresses. Nothing here is a claim. -/
import Derived.Test.YtjldfmifccjniaaHardware
import Derived.DeepKeys
namespace Go.Proofs.Ytjldfmifccjniaa
open Go.RowKit Go.Lib

theorem cells51 : Try.prog.cellsOf 51 = 8 := by kernel_rfl
theorem cells5 : Try.prog.cellsOf 5 = 1 := by kernel_rfl

theorem keys8 (x0 x1 x2 x3 x4 x5 x6 x7 : Int) (h0 : (Lit.int .u8 x0).wf = true) (h1 : (Lit.int .u8 x1).wf = true) (h2 : (Lit.int .u8 x2).wf = true) (h3 : (Lit.int .u8 x3).wf = true) (h4 : (Lit.int .u8 x4).wf = true) (h5 : (Lit.int .u8 x5).wf = true) (h6 : (Lit.int .u8 x6).wf = true) (h7 : (Lit.int .u8 x7).wf = true) :
    Try.prog.keyLits 2 51 [.int .u8 x0, .int .u8 x1, .int .u8 x2, .int .u8 x3, .int .u8 x4, .int .u8 x5, .int .u8 x6, .int .u8 x7] = some [.int .u8 x0, .int .u8 x1, .int .u8 x2, .int .u8 x3, .int .u8 x4, .int .u8 x5, .int .u8 x6, .int .u8 x7] := by
  simp [Program.keyLits, Try.underlying51, Try.underlying5, cells51, cells5, List.range, List.range.loop, h0, h1, h2, h3, h4, h5, h6, h7]

theorem wf_u8 (n : Int) : (Lit.int .u8 (n % 256)).wf = true := by
  have h1 := Int.emod_nonneg n (show (256 : Int) ≠ 0 by decide)
  have h2 := Int.emod_lt_of_pos n (show (0 : Int) < 256 by decide)
  have e1 : IntKind.u8.min = 0 := by decide
  have e2 : IntKind.u8.max = 255 := by decide
  simp only [Lit.wf, e1, e2, Bool.and_eq_true, decide_eq_true_eq]
  omega

theorem hw_inj (a b : Int) (ha : -9223372036854775808 ≤ a ∧ a ≤ 9223372036854775807) (hb : -9223372036854775808 ≤ b ∧ b ≤ 9223372036854775807)
    (h0 : a / 72057594037927936 % 256 = b / 72057594037927936 % 256) (h1 : a / 281474976710656 % 256 = b / 281474976710656 % 256) (h2 : a / 1099511627776 % 256 = b / 1099511627776 % 256) (h3 : a / 4294967296 % 256 = b / 4294967296 % 256)
    (h4 : a / 16777216 % 256 = b / 16777216 % 256) (h5 : a / 65536 % 256 = b / 65536 % 256) (h6 : a / 256 % 256 = b / 256 % 256) (h7 : a % 256 = b % 256) : a = b := by
  have e6 : a % 65536 = b % 65536 := by omega
  have e5 : a % 16777216 = b % 16777216 := by omega
  have e4 : a % 4294967296 = b % 4294967296 := by omega
  have e3 : a % 1099511627776 = b % 1099511627776 := by omega
  have e2 : a % 281474976710656 = b % 281474976710656 := by omega
  have e1 : a % 72057594037927936 = b % 72057594037927936 := by omega
  omega

/-- Two arrays are equal exactly where the two ints are. -/
theorem hw_eq (a b : Int) (ha : -9223372036854775808 ≤ a ∧ a ≤ 9223372036854775807) (hb : -9223372036854775808 ≤ b ∧ b ≤ 9223372036854775807) (w : World) :
    (Op.equalIn 10000 51 (.agg (hw a)) (.agg (hw b))).run Try.prog w = .ok (decide (a = b)) w := by
  obtain ⟨r, hr, hi⟩ := run_equalIn_deep (P := Try.prog) 9998 2 51 (by kernel_rfl) w 2 2 (.agg (hw a)) (.agg (hw b)) _ _
    (by simp [Value.formed, Try.underlying51, cells51, hw]) (by simp [Value.formed, Try.underlying51, cells51, hw])
    (keys8 _ _ _ _ _ _ _ _ (wf_u8 _) (wf_u8 _) (wf_u8 _) (wf_u8 _) (wf_u8 _) (wf_u8 _) (wf_u8 _) (wf_u8 _)) (keys8 _ _ _ _ _ _ _ _ (wf_u8 _) (wf_u8 _) (wf_u8 _) (wf_u8 _) (wf_u8 _) (wf_u8 _) (wf_u8 _) (wf_u8 _))
  rw [hr]
  congr 1
  rw [Bool.eq_iff_iff, hi, decide_eq_true_iff]
  simp only [List.cons.injEq, Lit.int.injEq, true_and, and_true]
  constructor
  · rintro ⟨h0, h1, h2, h3, h4, h5, h6, h7⟩
    exact hw_inj a b ha hb h0 h1 h2 h3 h4 h5 h6 h7
  · rintro rfl
    simp
end Go.Proofs.Ytjldfmifccjniaa
