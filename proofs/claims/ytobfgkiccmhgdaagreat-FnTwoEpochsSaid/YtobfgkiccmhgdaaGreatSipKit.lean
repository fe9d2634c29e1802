/- Plain lemmas of chapter 10 of the document: 64-bit words. Nothing here is a claim. -/
import Derived.Test.YtobfgkiccmhgdaaGreatBase
namespace Go.Proofs.YtobfgkiccmhgdaaGreat
open Go.RowKit Go.Lib

/-- A 64-bit word as the integer that the model holds. -/
def n64 (x : BitVec 64) : Int := x.toNat
theorem n64_bd (x : BitVec 64) : 0 ≤ n64 x ∧ n64 x < 18446744073709551616 := by
  have := x.isLt
  unfold n64
  omega
theorem n64_inj {x y : BitVec 64} (h : n64 x = n64 y) : x = y := by
  apply BitVec.eq_of_toNat_eq
  unfold n64 at h
  omega
theorem ofInt_n64 (x : BitVec 64) : BitVec.ofInt 64 (n64 x) = x := by
  unfold n64
  rw [BitVec.ofInt_natCast]
  simp
theorem n64_of (n : Int) (h : 0 ≤ n ∧ n < 18446744073709551616) : ∃ x, n = n64 x := by
  refine ⟨BitVec.ofInt 64 n, ?_⟩
  unfold n64
  rw [BitVec.toNat_ofInt]
  omega
theorem wrap_n64 (x : BitVec 64) : IntKind.u64.wrap (n64 x) = n64 x := by
  have := n64_bd x
  rw [IntKind.wrap_u64]
  omega
theorem add64 (x y : BitVec 64) : IntKind.u64.wrap (n64 x + n64 y) = n64 (x + y) := by
  rw [IntKind.wrap_u64]
  unfold n64
  rw [BitVec.toNat_add]
  omega
theorem sub64 (x y : BitVec 64) : IntKind.u64.wrap (n64 x - n64 y) = n64 (x - y) := by
  have h1 := x.isLt
  have h2 := y.isLt
  rw [IntKind.wrap_u64]
  unfold n64
  rw [BitVec.toNat_sub]
  omega
theorem xor64 (x y : BitVec 64) : bits .xor .u64 (n64 x) (n64 y) = n64 (x ^^^ y) := by
  show IntKind.u64.wrap ((BitVec.ofInt 64 (n64 x) ^^^ BitVec.ofInt 64 (n64 y)).toNat : Int) = _
  rw [ofInt_n64, ofInt_n64]
  exact wrap_n64 _
theorem or64 (x y : BitVec 64) : bits .or .u64 (n64 x) (n64 y) = n64 (x ||| y) := by
  show IntKind.u64.wrap ((BitVec.ofInt 64 (n64 x) ||| BitVec.ofInt 64 (n64 y)).toNat : Int) = _
  rw [ofInt_n64, ofInt_n64]
  exact wrap_n64 _
theorem shl64 (x : BitVec 64) (k : Nat) : IntKind.u64.wrap (n64 x * 2 ^ k) = n64 (x <<< k) := by
  rw [IntKind.wrap_u64]
  unfold n64
  rw [BitVec.toNat_shiftLeft, Nat.shiftLeft_eq]
  simp
theorem shr64 (x : BitVec 64) (k : Nat) : n64 x / 2 ^ k = n64 (x >>> k) := by
  unfold n64
  rw [BitVec.toNat_ushiftRight, Nat.shiftRight_eq_div_pow]
  simp
end Go.Proofs.YtobfgkiccmhgdaaGreat
