/- An address is read from its text, and no other text is. Plain lemmas; nothing here is a claim. -/
import Derived.Test.YtahkaemdgelmdaaDoorAdrKit
namespace Go.Proofs.YtahkaemdgelmdaaDoor
open Go.RowKit Go.Lib

theorem adr_round (n : Nat) (hlt : n < 256 ^ 4) : adrOut (adrText n) = ((n : Int), true) := by
  rw [adrOut_yes _ (good_text n hlt), pieces_text n hlt]
  have h8 := fun i => (wbAt n 4 i).toNat_lt
  have h0 := h8 0
  have h1 := h8 1
  have h2 := h8 2
  have h3 := h8 3
  have hs : ∃ ps, ps = [dig1 (wbAt n 4 0), dig1 (wbAt n 4 1), dig1 (wbAt n 4 2), dig1 (wbAt n 4 3)] := ⟨_, rfl⟩
  obtain ⟨ps, hps⟩ := hs
  rw [← hps]
  have k3 : adn ps (3 + 1) = 256 * adn ps 3 + (wbAt n 4 3).toNat := adn_good (by rw [hps]; exact dig1_num _) (by omega)
  have k2 : adn ps (2 + 1) = 256 * adn ps 2 + (wbAt n 4 2).toNat := adn_good (by rw [hps]; exact dig1_num _) (by omega)
  have k1 : adn ps (1 + 1) = 256 * adn ps 1 + (wbAt n 4 1).toNat := adn_good (by rw [hps]; exact dig1_num _) (by omega)
  have k0 : adn ps (0 + 1) = 256 * adn ps 0 + (wbAt n 4 0).toNat := adn_good (by rw [hps]; exact dig1_num _) (by omega)
  have kz : adn ps 0 = 0 := rfl
  have e : adn ps 4 = n := by
    rw [wbAt_nat] at k0 k1 k2 k3
    rw [show 256 ^ (4 - 1 - 0) = 16777216 by rfl] at k0
    rw [show 256 ^ (4 - 1 - 1) = 65536 by rfl] at k1
    rw [show 256 ^ (4 - 1 - 2) = 256 by rfl] at k2
    rw [show 256 ^ (4 - 1 - 3) = 1 by rfl] at k3
    simp only [Nat.reduceAdd] at k0 k1 k2 k3
    have : (256 : Nat) ^ 4 = 4294967296 := by decide
    omega
  rw [e]
theorem adr_none : adrOut ⟨#[]⟩ = (0, false) := by unfold adrOut; rw [if_pos (.inl (by rfl))]
/-- What Address answers of the text of n. -/
theorem adr_cases (n : Int) : ∃ x ok, adrOut (adrText n) = (x, ok) ∧ wordOk n 32 = ok ∧ (ok = true → x = n) := by
  by_cases h : 0 ≤ n ∧ n < 4294967296
  · obtain ⟨m, rfl⟩ : ∃ m : Nat, n = (m : Int) := ⟨n.toNat, by omega⟩
    refine ⟨m, true, adr_round m (by omega), ?_, fun _ => rfl⟩
    unfold wordOk
    rw [show (32 : Int).toNat = 32 by rfl]
    have h2 : (2 : Int) ^ 32 = 4294967296 := by decide
    exact decide_eq_true (by omega)
  · refine ⟨0, false, ?_, ?_, fun h => by cases h⟩
    · have : putW n 4 = ⟨#[]⟩ := by
        unfold putW
        rw [if_neg]
        rw [show (8 * (4 : Int)).toNat = 32 by rfl]
        have h2 : (2 : Int) ^ 32 = 4294967296 := by decide
        omega
      unfold adrText; rw [this, textOf_none, adr_none]
    · unfold wordOk
      rw [show (32 : Int).toNat = 32 by rfl]
      have h2 : (2 : Int) ^ 32 = 4294967296 := by decide
      exact decide_eq_false (by omega)
theorem adr_back (t : ByteArray) (y : Int) (h : adrOut t = (y, true)) : adrText y = t := by
  unfold adrOut at h
  split at h
  · exact absurd (congrArg Prod.snd h) (by simp)
  · rename_i hc
    have e : _ = y := congrArg Prod.fst h
    rw [← e]
    exact Classical.not_not.1 (not_or.1 hc).2
end Go.Proofs.YtahkaemdgelmdaaDoor
