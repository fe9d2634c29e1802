/- Plain lemmas of chapter 2 of the document: words. Nothing here is a claim. -/
import Derived.Test.YtlfbcfhekfmkfaaKit
import Derived.Lib.Hide
namespace Go.Proofs.Ytlfbcfhekfmkfaa
open Go.RowKit Go.Lib

theorem ret_bool {a b : Bool} (h : a = b) : Ending.returned (.bool a) = .returned (.bool b) := by rw [h]

/-- Whether n is a word of so many bits. -/
def wordOk (n b : Int) : Bool := decide ((1 ≤ b ∧ b ≤ 62) ∧ 0 ≤ n ∧ n < 2 ^ b.toNat)

theorem pow_le62 (k : Nat) (h : k ≤ 62) : (2 : Int) ^ k ≤ 4611686018427387904 := by
  have h1 : 2 ^ k ≤ 2 ^ 62 := Nat.pow_le_pow_right (by decide) h
  have h2 : ((2 ^ k : Nat) : Int) ≤ ((2 ^ 62 : Nat) : Int) := by exact_mod_cast h1
  simpa using h2
theorem pow_pos2 (k : Nat) : (1 : Int) ≤ 2 ^ k := by
  have h : (0 : Int) < 2 ^ k := Int.pow_pos (by decide)
  omega
theorem div_zero_iff (n : Int) (k : Nat) (h : 0 ≤ n) : n / 2 ^ k = 0 ↔ n < 2 ^ k := by
  have hp := pow_pos2 k
  constructor
  · intro h1
    have h2 := Int.emod_lt_of_pos n (show (0 : Int) < 2 ^ k by omega)
    have h3 := Int.mul_ediv_add_emod n (2 ^ k)
    rw [h1] at h3; omega
  · intro h1; exact Int.ediv_eq_zero_of_lt h h1
theorem wordOk_bd {n b : Int} (h : wordOk n b = true) : 0 ≤ n ∧ n ≤ 4611686018427387903 := by
  have h := of_decide_eq_true h
  have := pow_le62 b.toNat (by omega)
  omega
end Go.Proofs.Ytlfbcfhekfmkfaa
