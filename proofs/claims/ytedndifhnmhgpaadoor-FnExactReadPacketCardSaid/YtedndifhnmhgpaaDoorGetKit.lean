/- Plain lemmas on reading a word out of bytes. Nothing here is a claim. -/
import Derived.Test.YtedndifhnmhgpaaDoorPutKit
import Derived.Test.YtedndifhnmhgpaaDoorUnhexKit
namespace Go.Proofs.YtedndifhnmhgpaaDoor
open Go.RowKit Go.Lib

/-- The first j bytes of s from a on, read as a word. -/
def gw (s : ByteArray) (a : Nat) : Nat → Nat
  | 0 => 0
  | j + 1 => 256 * gw s a j + (at8 s (a + j)).toNat
theorem gw_lt (s : ByteArray) (a j : Nat) : gw s a j < 256 ^ j := by
  induction j with
  | zero => simp [gw]
  | succ j ih =>
    have h := (at8 s (a + j)).toNat_lt
    simp only [gw, Nat.pow_succ]; omega
theorem pow256_le (j : Nat) (h : j ≤ 6) : 256 ^ j ≤ 281474976710656 := Nat.le_trans (Nat.pow_le_pow_right (by decide) h) (by decide)
theorem gw_bd (s : ByteArray) (a j : Nat) (h : j ≤ 6) : gw s a j ≤ 281474976710655 := by
  have h1 := gw_lt s a j
  have h2 := pow256_le j h
  omega
theorem gw_bd5 (s : ByteArray) (a j : Nat) (h : j < 6) : gw s a j ≤ 1099511627775 := by
  have h1 := gw_lt s a j
  have h2 : 256 ^ j ≤ 1099511627776 := Nat.le_trans (Nat.pow_le_pow_right (by decide) (show j ≤ 5 by omega)) (by decide)
  omega

/-- What GetWord answers. -/
def getW (s : ByteArray) (a n : Int) : Int × Bool := if (1 ≤ n ∧ n ≤ 6) ∧ 0 ≤ a ∧ a ≤ s.size - n then (gw s a.toNat n.toNat, true) else (0, false)
theorem getW_no (s : ByteArray) (a n : Int) (h : ¬ (1 ≤ n ∧ n ≤ 6)) : getW s a n = (0, false) := by unfold getW; rw [if_neg (fun hh => h hh.1)]
theorem getW_no2 (s : ByteArray) (a n : Int) (h : ¬ (0 ≤ a ∧ a ≤ s.size - n)) : getW s a n = (0, false) := by unfold getW; rw [if_neg (fun hh => h hh.2)]
theorem getW_yes (s : ByteArray) (a n : Nat) (h : 1 ≤ n ∧ n ≤ 6) (h2 : a + n ≤ s.size) : getW s a n = ((gw s a n : Int), true) := by
  unfold getW; rw [if_pos ⟨by omega, by omega, by omega⟩]; simp

/-- A byte put behind a word. -/
theorem or_byte (x b : Nat) (hx : x ≤ 1099511627775) (hb : b < 256) : bits .or .i64 ((x : Int) * 256) (b : Int) = ((256 * x + b : Nat) : Int) := by
  have h1 : (BitVec.ofInt 64 ((x : Int) * 256)).toNat = x * 256 := by
    rw [show (x : Int) * 256 = ((x * 256 : Nat) : Int) by simp, BitVec.ofInt_natCast, BitVec.toNat_ofNat]; exact Nat.mod_eq_of_lt (by omega)
  have h2 : (BitVec.ofInt 64 (b : Int)).toNat = b := by
    rw [BitVec.ofInt_natCast, BitVec.toNat_ofNat]; exact Nat.mod_eq_of_lt (by omega)
  have h4 : (BitVec.ofInt 64 ((x : Int) * 256) ||| BitVec.ofInt 64 (b : Int)).toNat = 256 * x + b := by
    rw [BitVec.toNat_or, h1, h2]
    have h := Nat.shiftLeft_add_eq_or_of_lt (show b < 2 ^ 8 by omega) x
    rw [Nat.shiftLeft_eq] at h
    rw [show x * 256 = x * 2 ^ 8 by rfl, ← h]; omega
  have h3 : bits .or .i64 ((x : Int) * 256) (b : Int) = IntKind.i64.wrap ((BitVec.ofInt 64 ((x : Int) * 256) ||| BitVec.ofInt 64 (b : Int)).toNat : Int) := rfl
  rw [h3, h4, IntKind.wrap_i64]
  omega
end Go.Proofs.YtedndifhnmhgpaaDoor
