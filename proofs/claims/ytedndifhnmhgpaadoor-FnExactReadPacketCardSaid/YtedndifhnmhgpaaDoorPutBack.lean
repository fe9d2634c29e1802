/- Plain lemmas: a word that was put is read back. Nothing here is a claim. -/
import Derived.Test.YtedndifhnmhgpaaDoorWordLaws
namespace Go.Proofs.YtedndifhnmhgpaaDoor
open Go.RowKit Go.Lib

theorem putW_word (n : Int) (k : Nat) (hk : 1 ≤ k ∧ k ≤ 6) (h : wordOk n (8 * k) = true) : ∃ m : Nat, n = m ∧ m < 256 ^ k ∧ putW n k = ⟨(wb m k).toArray⟩ ∧ (putW n k).size = k := by
  rcases putW_cases n k with ⟨_, h1⟩ | ⟨m, k', rfl, e, _, hm, hp, _⟩
  · rcases h1 with h1 | h1 | h1
    · rw [h] at h1; cases h1
    · omega
    · omega
  · have e' : k = k' := by omega
    subst e'
    refine ⟨m, rfl, hm, hp, ?_⟩
    rw [hp]; show (wb m k).toArray.size = k; rw [List.size_toArray, wb_length]
theorem gw_at (n : Int) (k : Nat) (hk : 1 ≤ k ∧ k ≤ 6) (h : wordOk n (8 * k) = true) (p q : ByteArray) : ((gw (p ++ putW n k ++ q) p.size k : Nat) : Int) = n := by
  obtain ⟨m, rfl, hm, hp, _⟩ := putW_word n k hk h
  rw [hp]
  have h1 := get_put m k hk hm p q
  rw [getW_yes _ _ _ hk (by rw [ByteArray.size_append, ByteArray.size_append]; show p.size + k ≤ p.size + (wb m k).toArray.size + q.size; rw [List.size_toArray, wb_length]; omega)] at h1
  exact (Prod.mk.inj h1).1
/-- A word that stands in a text, read back. -/
theorem gw_back (n : Int) (k i : Nat) (hk : 1 ≤ k ∧ k ≤ 6) (h : wordOk n (8 * k) = true) (p q x : ByteArray) (hx : x = p ++ (putW n k ++ q)) (hi : p.size = i) : ((gw x i k : Nat) : Int) = n := by
  have := gw_at n k hk h p q
  rw [← hi, hx, ← ByteArray.append_assoc]; exact this
end Go.Proofs.YtedndifhnmhgpaaDoor
