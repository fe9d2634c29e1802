/- Stamps read back (pure). Nothing here is a claim. -/
import Derived.Test.YtifgaojgnaafbaaStampKit
namespace Go.Proofs.Ytifgaojgnaafbaa
open Go.RowKit Go.Lib

theorem word32_of {x : Int} (h0 : 0 ≤ x) (h1 : x < 4294967296) : wordOk x 32 = true := by
  unfold wordOk; rw [decide_eq_true_iff]; simp; omega
theorem of_word32 {x : Int} (h : wordOk x 32 = true) : 0 ≤ x ∧ x < 4294967296 := by
  unfold wordOk at h; rw [decide_eq_true_iff] at h; simp at h; omega
/-- The scale that a stamp can bear. -/
def stampFit (scale : Int) : Int := if 0 ≤ scale ∧ scale ≤ 14 then scale else -1
theorem stamp_back (clock scale : Int) (sack : Bool) : wordOk (stampOf clock scale sack) 32 = true ∧ stampIs (stampOf clock scale sack) = true ∧ stampScale (stampOf clock scale sack) = stampFit scale ∧ stampSack (stampOf clock scale sack) = sack := by
  have hs : ∃ s : Int, (if 0 ≤ scale ∧ scale ≤ 14 then scale else 15) = s ∧ 0 ≤ s ∧ s ≤ 15 ∧ stampFit scale = if s = 15 then -1 else s := by
    unfold stampFit
    by_cases h : 0 ≤ scale ∧ scale ≤ 14
    · rw [if_pos h, if_pos h]; exact ⟨_, rfl, h.1, by omega, by rw [if_neg (by omega)]⟩
    · rw [if_neg h, if_neg h]; exact ⟨_, rfl, by omega, by omega, by rw [if_pos rfl]⟩
  have hk : ∃ k : Int, (if sack then (16 : Int) else 0) = 16 * k ∧ 0 ≤ k ∧ k ≤ 1 ∧ sack = decide (k = 1) := by
    cases sack
    · exact ⟨0, rfl, by omega, by omega, rfl⟩
    · exact ⟨1, rfl, by omega, by omega, rfl⟩
  obtain ⟨s, e1, s0, s1, e2⟩ := hs
  obtain ⟨k, e3, k0, k1, e4⟩ := hk
  have hv : stampOf clock scale sack = (clock % 67108864) * 64 + 32 + 16 * k + s := by unfold stampOf; rw [e1, e3]
  rw [hv, e2]
  have hc0 : 0 ≤ clock % 67108864 := Int.emod_nonneg _ (by decide)
  have hc1 : clock % 67108864 < 67108864 := Int.emod_lt_of_pos _ (by decide)
  generalize clock % 67108864 = q at hc0 hc1
  have hw : wordOk (q * 64 + 32 + 16 * k + s) 32 = true := word32_of (by omega) (by omega)
  refine ⟨hw, ?_, ?_, ?_⟩
  · unfold stampIs; rw [hw, decide_eq_true (by omega)]; rfl
  · unfold stampScale; rw [show (q * 64 + 32 + 16 * k + s) % 16 = s by omega]
  · unfold stampSack; rw [e4, decide_eq_decide]; omega
end Go.Proofs.Ytifgaojgnaafbaa
