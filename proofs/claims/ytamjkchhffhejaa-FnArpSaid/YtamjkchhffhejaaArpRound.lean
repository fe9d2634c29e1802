/- Plain lemmas: a message's text is read as the message, whatever stands behind it. Nothing here is a claim. -/
import Derived.Test.YtamjkchhffhejaaArpBack
import Derived.Test.YtamjkchhffhejaaPutBack
namespace Go.Proofs.Ytamjkchhffhejaa
open Go.RowKit Go.Lib

theorem arp_round (k a b c d : Int) (q : ByteArray) (h : arpOk k a b c d = true) :
    raOk (arpText k a b c d ++ q) = true ∧ raF (arpText k a b c d ++ q) 6 2 = k ∧ raF (arpText k a b c d ++ q) 8 6 = a ∧ raF (arpText k a b c d ++ q) 14 4 = b ∧ raF (arpText k a b c d ++ q) 18 6 = c ∧ raF (arpText k a b c d ++ q) 24 4 = d := by
  have hh := h
  unfold arpOk at h
  simp only [Bool.and_eq_true, decide_eq_true_eq] at h
  obtain ⟨⟨⟨⟨h1, h2⟩, h3⟩, h4⟩, h5⟩ := h
  have h0 : wordOk k 16 = true := by
    unfold wordOk; exact decide_eq_true ⟨by omega, by rw [show (2 : Int) ^ (16 : Int).toNat = 65536 from rfl]; omega⟩
  obtain ⟨_, _, _, _, z0⟩ := putW_word k 2 (by omega) h0
  obtain ⟨_, _, _, _, z1⟩ := putW_word a 6 (by omega) h2
  obtain ⟨_, _, _, _, z2⟩ := putW_word b 4 (by omega) h4
  obtain ⟨_, _, _, _, z3⟩ := putW_word c 6 (by omega) h3
  obtain ⟨_, _, _, _, z4⟩ := putW_word d 4 (by omega) h5
  have y0 : (putW k 2).size = 2 := z0
  have y1 : (putW a 6).size = 6 := z1
  have y2 : (putW b 4).size = 4 := z2
  have y3 : (putW c 6).size = 6 := z3
  have y4 : (putW d 4).size = 4 := z4
  have yh : arpHead.size = 6 := rfl
  have e : arpText k a b c d ++ q = arpHead ++ (putW k 2 ++ (putW a 6 ++ (putW b 4 ++ (putW c 6 ++ (putW d 4 ++ q))))) := by
    unfold arpText; rw [if_pos hh]; simp only [ByteArray.append_assoc]
  obtain ⟨x, hx⟩ : ∃ x, arpText k a b c d ++ q = x := ⟨_, rfl⟩
  rw [hx] at e ⊢
  have hsz : 28 ≤ x.size := by
    rw [e]; simp only [ByteArray.size_append]; omega
  have g0 := gw_back k 2 6 (by omega) h0 arpHead _ x e rfl
  have g1 := gw_back a 6 8 (by omega) h2 (arpHead ++ putW k 2) (putW b 4 ++ (putW c 6 ++ (putW d 4 ++ q))) x (by rw [e]; simp only [ByteArray.append_assoc]; rfl) (by rw [ByteArray.size_append]; omega)
  have g2 := gw_back b 4 14 (by omega) h4 (arpHead ++ putW k 2 ++ putW a 6) (putW c 6 ++ (putW d 4 ++ q)) x (by rw [e]; simp only [ByteArray.append_assoc]; rfl) (by simp only [ByteArray.size_append]; omega)
  have g3 := gw_back c 6 18 (by omega) h3 (arpHead ++ putW k 2 ++ putW a 6 ++ putW b 4) (putW d 4 ++ q) x (by rw [e]; simp only [ByteArray.append_assoc]; rfl) (by simp only [ByteArray.size_append]; omega)
  have g4 := gw_back d 4 24 (by omega) h5 (arpHead ++ putW k 2 ++ putW a 6 ++ putW b 4 ++ putW c 6) q x (by rw [e]; simp only [ByteArray.append_assoc]; rfl) (by simp only [ByteArray.size_append]; omega)
  have hd : ((x.extract 0 6).toList == [0, 1, 8, 0, 6, 4]) = true := by
    have e6 : x.extract 0 6 = arpHead := by rw [e]; exact ByteArray.extract_append_eq_left yh.symm
    rw [e6, ByteArray.toList_eq]; rfl
  have hr : raOk x = true := by
    unfold raOk rdOk
    rw [g0, g1, g2, g3, g4, hh, hd, Bool.and_true, Bool.and_true]
    exact decide_eq_true hsz
  refine ⟨hr, ?_, ?_, ?_, ?_, ?_⟩ <;> (unfold raF; rw [hr]; assumption)
theorem arp_none (k a b c d : Int) (q : ByteArray) (h : arpOk k a b c d = false) (hq : q.size < 28) : raOk (arpText k a b c d ++ q) = false := by
  have e : arpText k a b c d = ⟨#[]⟩ := by unfold arpText; rw [if_neg (by rw [h]; decide)]
  unfold raOk
  rw [e, decide_eq_false (by rw [ByteArray.size_append]; show ¬ 28 ≤ 0 + q.size; omega), Bool.false_and]
end Go.Proofs.Ytamjkchhffhejaa
