/- A round, and a word, taken back; cells of two words' structs kept over calls. Nothing here is a claim. -/
import Derived.Test.YtojkkholopodaaaSipW
namespace Go.Proofs.Ytojkkholopodaaa
open Go.RowKit Go.Lib

theorem xor_back (x y : BitVec 64) : x ^^^ y ^^^ y = x := by rw [BitVec.xor_assoc, BitVec.xor_self, BitVec.xor_zero]
theorem rot_back (x : BitVec 64) (k : Nat) (h : k < 64) : (x.rotateLeft k).rotateRight k = x := by
  apply BitVec.eq_of_getLsbD_eq
  intro i hi
  simp only [BitVec.getLsbD_rotateRight, BitVec.getLsbD_rotateLeft, Nat.mod_eq_of_lt h]
  by_cases h1 : i < 64 - k
  · have h2 : ¬ k + i < k := by omega
    have h3 : k + i < 64 := by omega
    simp [h1, h3]
    rw [decide_eq_false h2]
    rfl
  · have h2 : i - (64 - k) < k := by omega
    have h3 : 64 - k + (i - (64 - k)) = i := by omega
    simp [h1, h2, h3, hi]
theorem S4.back_rnd (s : S4) : s.rnd.back = s := by
  obtain ⟨a, b, c, d⟩ := s
  simp only [S4.rnd, S4.ab, S4.cd, S4.ad, S4.cb, S4.back, xor_back, rot_back _ 32 (by decide), rot_back _ 17 (by decide), rot_back _ 21 (by decide), rot_back _ 16 (by decide), rot_back _ 13 (by decide), BitVec.add_sub_cancel]
end Go.Proofs.Ytojkkholopodaaa
