/- Plain lemmas: a frame's text is read as the frame. Nothing here is a claim. -/
import Derived.Test.YtjldfmifccjniaaReadFrm2
namespace Go.Proofs.Ytjldfmifccjniaa
open Go.RowKit Go.Lib

theorem putW_word (n : Int) (k : Nat) (hk : 1 ≤ k ∧ k ≤ 6) (h : wordOk n (8 * k) = true) : ∃ m : Nat, n = m ∧ m < 256 ^ k ∧ putW n k = ⟨(wb m k).toArray⟩ ∧ (putW n k).size = k := by
  rcases putW_cases n k with ⟨_, h1⟩ | ⟨m, k', rfl, e, _, hm, hp, _⟩
  · rcases h1 with h1 | h1 | h1
    · rw [h] at h1; cases h1
    · omega
    · omega
  · have e' : k = k' := by omega
    subst e'
    refine ⟨m, rfl, hm, hp, ?_⟩
    rw [hp]; show (wb m k).toArray.size = k; rw [List.size_toArray, wb_length]
theorem gw_at (n : Int) (k : Nat) (hk : 1 ≤ k ∧ k ≤ 6) (h : wordOk n (8 * k) = true) (p q : ByteArray) : ((gw (p ++ putW n k ++ q) p.size k : Nat) : Int) = n := by
  obtain ⟨m, rfl, hm, hp, _⟩ := putW_word n k hk h
  rw [hp]
  have h1 := get_put m k hk hm p q
  rw [getW_yes _ _ _ hk (by rw [ByteArray.size_append, ByteArray.size_append]; show p.size + k ≤ p.size + (wb m k).toArray.size + q.size; rw [List.size_toArray, wb_length]; omega)] at h1
  exact (Prod.mk.inj h1).1

theorem read_text (d s t : Int) (b : ByteArray) (h : frameOk d s t b = true) :
    rfOk (frameText d s t b) = true ∧ rfD (frameText d s t b) = d ∧ rfS (frameText d s t b) = s ∧ rfT (frameText d s t b) = t ∧ rfB (frameText d s t b) = b := by
  have hh := h
  unfold frameOk at h
  simp only [Bool.and_eq_true, decide_eq_true_eq] at h
  obtain ⟨⟨⟨h1, h2⟩, h3⟩, _⟩ := h
  have h4 : wordOk t 16 = true := by rw [type_word t h3.1]; exact decide_eq_true h3
  obtain ⟨_, _, _, _, z1⟩ := putW_word d 6 (by omega) h1
  obtain ⟨_, _, _, _, z2⟩ := putW_word s 6 (by omega) h2
  obtain ⟨_, _, _, _, z3⟩ := putW_word t 2 (by omega) h4
  have g1 := gw_at d 6 (by omega) h1 ⟨#[]⟩ (putW s 6 ++ putW t 2 ++ b)
  have g2 := gw_at s 6 (by omega) h2 (putW d 6) (putW t 2 ++ b)
  have g3 := gw_at t 2 (by omega) h4 (putW d 6 ++ putW s 6) b
  have e : frameText d s t b = putW d 6 ++ putW s 6 ++ putW t 2 ++ b := by unfold frameText; rw [if_pos hh]
  obtain ⟨x, hx⟩ : ∃ x, putW d 6 ++ putW s 6 ++ putW t 2 ++ b = x := ⟨_, rfl⟩
  have hsz : x.size = 14 + b.size := by
    rw [← hx, ByteArray.size_append, ByteArray.size_append, ByteArray.size_append]
    have a1 : (putW d 6).size = 6 := z1
    have a2 : (putW s 6).size = 6 := z2
    have a3 : (putW t 2).size = 2 := z3
    omega
  have k1 : ((gw x 0 6 : Nat) : Int) = d := by
    rw [← hx]
    have e1 : (⟨#[]⟩ : ByteArray) ++ putW d 6 ++ (putW s 6 ++ putW t 2 ++ b) = putW d 6 ++ putW s 6 ++ putW t 2 ++ b := by
      rw [show (⟨#[]⟩ : ByteArray) ++ putW d 6 = putW d 6 from ByteArray.empty_append, ← ByteArray.append_assoc, ← ByteArray.append_assoc]
    rw [← e1]; exact g1
  have k2 : ((gw x 6 6 : Nat) : Int) = s := by
    rw [← hx]
    have e1 : putW d 6 ++ putW s 6 ++ (putW t 2 ++ b) = putW d 6 ++ putW s 6 ++ putW t 2 ++ b := by rw [← ByteArray.append_assoc]
    rw [← e1]
    have a1 : (putW d 6).size = 6 := z1
    rw [a1] at g2; exact g2
  have k3 : ((gw x 12 2 : Nat) : Int) = t := by
    rw [← hx]
    have a1 : (putW d 6 ++ putW s 6).size = 12 := by rw [ByteArray.size_append]; have a1 : (putW d 6).size = 6 := z1; have a2 : (putW s 6).size = 6 := z2; omega
    rw [a1] at g3; exact g3
  have k4 : x.extract 14 x.size = b := by
    rw [hsz, ← hx]
    have a1 : (putW d 6 ++ putW s 6 ++ putW t 2).size = 14 := by rw [ByteArray.size_append, ByteArray.size_append]; have a1 : (putW d 6).size = 6 := z1; have a2 : (putW s 6).size = 6 := z2; have a3 : (putW t 2).size = 2 := z3; omega
    exact ByteArray.extract_append_eq_right a1.symm (by rw [a1])
  rw [e, hx]
  have hok : rfOk x = true := by
    unfold rfOk readOk
    rw [k1, k2, k3, k4, hh, Bool.and_true]
    exact decide_eq_true (by omega)
  refine ⟨hok, ?_, ?_, ?_, ?_⟩
  · unfold rfD; rw [hok]; exact k1
  · unfold rfS; rw [hok]; exact k2
  · unfold rfT; rw [hok]; exact k3
  · unfold rfB; rw [hok]; exact k4
theorem read_none (d s t : Int) (b : ByteArray) (h : frameOk d s t b = false) : frameText d s t b = ⟨#[]⟩ ∧ rfOk ⟨#[]⟩ = false := by
  constructor
  · unfold frameText; rw [if_neg (by rw [h]; decide)]
  · rfl
/-- The text of what was read. -/
theorem text_back (s : ByteArray) (h : rfOk s = true) : frameText (rfD s) (rfS s) (rfT s) (rfB s) = s := by
  unfold rfD rfS rfT rfB
  simp only [h, if_true]
  unfold rfOk at h
  rw [Bool.and_eq_true, decide_eq_true_eq] at h
  exact text_read s h.1 h.2
end Go.Proofs.Ytjldfmifccjniaa
