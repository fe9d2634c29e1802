/- Plain lemmas of chapter 14 of the document: a stamp and its parts. Nothing here is a claim. -/
import Derived.Test.YtifgaojgnaafbaaBase
import Derived.Test.YtifgaojgnaafbaaKit
namespace Go.Proofs.Ytifgaojgnaafbaa
open Go.RowKit Go.Lib

/-- What StampOf answers. -/
def stampOf (clock scale : Int) (sack : Bool) : Int :=
  (clock % 67108864) * 64 + 32 + (if sack then 16 else 0) + (if 0 ≤ scale ∧ scale ≤ 14 then scale else 15)
/-- Whether v is a stamp. -/
def stampIs (v : Int) : Bool := wordOk v 32 && decide (v / 32 % 2 = 1)
/-- The scale in a stamp. -/
def stampScale (v : Int) : Int := if v % 16 = 15 then -1 else v % 16
/-- The sack in a stamp. -/
def stampSack (v : Int) : Bool := decide (v / 16 % 2 = 1)

theorem and_low15 (n : Int) : bits .and .i64 n 15 = n % 16 := by
  have h1 : ((BitVec.ofInt 64 n).toNat : Int) = n % 18446744073709551616 := by
    rw [BitVec.toNat_ofInt]
    have h : (0 : Int) ≤ n % 18446744073709551616 := Int.emod_nonneg _ (by decide)
    exact Int.toNat_of_nonneg h
  have h2 : (BitVec.ofInt 64 (15 : Int)).toNat = 15 := by decide
  have h4 : (BitVec.ofInt 64 n &&& BitVec.ofInt 64 (15 : Int)).toNat = (BitVec.ofInt 64 n).toNat % 16 := by
    rw [BitVec.toNat_and, h2]; exact Nat.and_two_pow_sub_one_eq_mod _ 4
  have h3 : bits .and .i64 n 15 = IntKind.i64.wrap ((BitVec.ofInt 64 n &&& BitVec.ofInt 64 (15 : Int)).toNat : Int) := rfl
  rw [h3, h4, IntKind.wrap_i64]
  omega
theorem and_low1 (n : Int) : bits .and .i64 n 1 = n % 2 := by
  have h1 : ((BitVec.ofInt 64 n).toNat : Int) = n % 18446744073709551616 := by
    rw [BitVec.toNat_ofInt]
    have h : (0 : Int) ≤ n % 18446744073709551616 := Int.emod_nonneg _ (by decide)
    exact Int.toNat_of_nonneg h
  have h2 : (BitVec.ofInt 64 (1 : Int)).toNat = 1 := by decide
  have h4 : (BitVec.ofInt 64 n &&& BitVec.ofInt 64 (1 : Int)).toNat = (BitVec.ofInt 64 n).toNat % 2 := by
    rw [BitVec.toNat_and, h2]; exact Nat.and_two_pow_sub_one_eq_mod _ 1
  have h3 : bits .and .i64 n 1 = IntKind.i64.wrap ((BitVec.ofInt 64 n &&& BitVec.ofInt 64 (1 : Int)).toNat : Int) := rfl
  rw [h3, h4, IntKind.wrap_i64]
  omega
theorem and_low26 (n : Int) : bits .and .i64 n 67108863 = n % 67108864 := by
  have h1 : ((BitVec.ofInt 64 n).toNat : Int) = n % 18446744073709551616 := by
    rw [BitVec.toNat_ofInt]
    have h : (0 : Int) ≤ n % 18446744073709551616 := Int.emod_nonneg _ (by decide)
    exact Int.toNat_of_nonneg h
  have h2 : (BitVec.ofInt 64 (67108863 : Int)).toNat = 67108863 := by decide
  have h4 : (BitVec.ofInt 64 n &&& BitVec.ofInt 64 (67108863 : Int)).toNat = (BitVec.ofInt 64 n).toNat % 67108864 := by
    rw [BitVec.toNat_and, h2]; exact Nat.and_two_pow_sub_one_eq_mod _ 26
  have h3 : bits .and .i64 n 67108863 = IntKind.i64.wrap ((BitVec.ofInt 64 n &&& BitVec.ofInt 64 (67108863 : Int)).toNat : Int) := rfl
  rw [h3, h4, IntKind.wrap_i64]
  omega
/-- One bit of a number. -/
theorem and_pow (m k : Nat) (b : Bool) (hb : m.testBit k = b) : m &&& 2 ^ k = b.toNat * 2 ^ k := by
  apply Nat.eq_of_testBit_eq
  intro i
  rw [Nat.testBit_and, Nat.testBit_two_pow]
  by_cases h : k = i
  · subst h
    rw [hb]
    cases b <;> simp
  · cases b <;> simp [h]
theorem and_bit16 (n : Int) (h0 : 0 ≤ n) (h : n ≤ 4294967295) : bits .and .i64 n 16 = n / 16 % 2 * 16 := by
  obtain ⟨m, rfl⟩ : ∃ m : Nat, n = (m : Int) := ⟨n.toNat, by omega⟩
  have h1 : (BitVec.ofInt 64 (m : Int)).toNat = m := by
    rw [BitVec.ofInt_natCast, BitVec.toNat_ofNat]; exact Nat.mod_eq_of_lt (by omega)
  have h2 : (BitVec.ofInt 64 (16 : Int)).toNat = 16 := by decide
  have h4 : (BitVec.ofInt 64 (m : Int) &&& BitVec.ofInt 64 (16 : Int)).toNat = m / 16 % 2 * 16 := by
    rw [BitVec.toNat_and, h1, h2]
    have e := and_pow m 4 _ rfl
    rw [Nat.testBit_eq_decide_div_mod_eq, show (2 : Nat) ^ 4 = 16 from rfl] at e
    rw [e]
    by_cases hb : m / 16 % 2 = 1
    · rw [decide_eq_true hb, hb]; rfl
    · rw [decide_eq_false hb, show m / 16 % 2 = 0 by omega]; rfl
  have h3 : bits .and .i64 (m : Int) 16 = IntKind.i64.wrap ((BitVec.ofInt 64 (m : Int) &&& BitVec.ofInt 64 (16 : Int)).toNat : Int) := rfl
  rw [h3, h4, IntKind.wrap_i64]
  omega
theorem and_bit32 (n : Int) (h0 : 0 ≤ n) (h : n ≤ 4294967295) : bits .and .i64 n 32 = n / 32 % 2 * 32 := by
  obtain ⟨m, rfl⟩ : ∃ m : Nat, n = (m : Int) := ⟨n.toNat, by omega⟩
  have h1 : (BitVec.ofInt 64 (m : Int)).toNat = m := by
    rw [BitVec.ofInt_natCast, BitVec.toNat_ofNat]; exact Nat.mod_eq_of_lt (by omega)
  have h2 : (BitVec.ofInt 64 (32 : Int)).toNat = 32 := by decide
  have h4 : (BitVec.ofInt 64 (m : Int) &&& BitVec.ofInt 64 (32 : Int)).toNat = m / 32 % 2 * 32 := by
    rw [BitVec.toNat_and, h1, h2]
    have e := and_pow m 5 _ rfl
    rw [Nat.testBit_eq_decide_div_mod_eq, show (2 : Nat) ^ 5 = 32 from rfl] at e
    rw [e]
    by_cases hb : m / 32 % 2 = 1
    · rw [decide_eq_true hb, hb]; rfl
    · rw [decide_eq_false hb, show m / 32 % 2 = 0 by omega]; rfl
  have h3 : bits .and .i64 (m : Int) 32 = IntKind.i64.wrap ((BitVec.ofInt 64 (m : Int) &&& BitVec.ofInt 64 (32 : Int)).toNat : Int) := rfl
  rw [h3, h4, IntKind.wrap_i64]
  omega
/-- Bits above those that are there. -/
theorem or_above (a b k : Nat) (ha : a < 2 ^ k) (hb : a + b * 2 ^ k < 4294967296) : bits .or .i64 (a : Int) ((b * 2 ^ k : Nat) : Int) = ((a + b * 2 ^ k : Nat) : Int) := by
  have h1 : (BitVec.ofInt 64 (a : Int)).toNat = a := by
    rw [BitVec.ofInt_natCast, BitVec.toNat_ofNat]; exact Nat.mod_eq_of_lt (by omega)
  have h2 : (BitVec.ofInt 64 ((b * 2 ^ k : Nat) : Int)).toNat = b * 2 ^ k := by
    rw [BitVec.ofInt_natCast, BitVec.toNat_ofNat]; exact Nat.mod_eq_of_lt (by omega)
  have h4 : (BitVec.ofInt 64 (a : Int) ||| BitVec.ofInt 64 ((b * 2 ^ k : Nat) : Int)).toNat = a + b * 2 ^ k := by
    rw [BitVec.toNat_or, h1, h2]
    have h := Nat.shiftLeft_add_eq_or_of_lt ha b
    rw [Nat.shiftLeft_eq] at h
    rw [Nat.or_comm, ← h]; omega
  have h3 : bits .or .i64 (a : Int) ((b * 2 ^ k : Nat) : Int) = IntKind.i64.wrap ((BitVec.ofInt 64 (a : Int) ||| BitVec.ofInt 64 ((b * 2 ^ k : Nat) : Int)).toNat : Int) := rfl
  rw [h3, h4, IntKind.wrap_i64]
  omega
end Go.Proofs.Ytifgaojgnaafbaa
