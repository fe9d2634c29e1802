/- Plain words on the input of a message authentication code (chapter 12 of the document). Nothing here is a claim. -/
import Derived.Test.YtobfgkiccmhgdaaGreatTupOk
import Derived.Test.YtobfgkiccmhgdaaGreatKit
namespace Go.Proofs.YtobfgkiccmhgdaaGreat
open Go.RowKit Go.Lib

/-- Whether the fields make an input. -/
def macArg (p q r s t i : Int) : Bool := tupOk p q r && (wordOk s 32 && (wordOk t 32 && (decide (0 ≤ i) && decide (i ≤ 7))))
/-- The input of these fields; the empty text if one of them is not valid. -/
def macIn (p q r s t i : Int) : ByteArray := if macArg p q r s t i = true then putW p 4 ++ putW q 2 ++ putW r 2 ++ putW s 4 ++ putW t 4 ++ putW i 1 else ⟨#[]⟩
theorem macIn_no {p q r s t i : Int} (h : macArg p q r s t i = false) : macIn p q r s t i = ⟨#[]⟩ := by unfold macIn; rw [h]; rfl
theorem macIn_yes {p q r s t i : Int} (h : macArg p q r s t i = true) : macIn p q r s t i = putW p 4 ++ putW q 2 ++ putW r 2 ++ putW s 4 ++ putW t 4 ++ putW i 1 := by unfold macIn; rw [if_pos h]
theorem macArg_all {p q r s t i : Int} (h : macArg p q r s t i = true) : wordOk p 32 = true ∧ wordOk q 16 = true ∧ wordOk r 16 = true ∧ wordOk s 32 = true ∧ wordOk t 32 = true ∧ wordOk i 8 = true := by
  unfold macArg tupOk at h
  simp only [Bool.and_eq_true, decide_eq_true_eq] at h
  obtain ⟨⟨a, b, c⟩, d, e, f, g⟩ := h
  refine ⟨a, b, c, d, e, ?_⟩
  have h8 : i = 0 ∨ i = 1 ∨ i = 2 ∨ i = 3 ∨ i = 4 ∨ i = 5 ∨ i = 6 ∨ i = 7 := by omega
  rcases h8 with rfl | rfl | rfl | rfl | rfl | rfl | rfl | rfl <;> decide
theorem putW_is (n : Int) (k : Nat) (hk : 1 ≤ k ∧ k ≤ 6) (h : wordOk n (8 * k) = true) : (putW n k).size = k := by
  obtain ⟨_, _, _, _, e⟩ := putW_word n k hk h
  exact e

theorem macIn_size {p q r s t i : Int} (h : macArg p q r s t i = true) : (macIn p q r s t i).size = 17 := by
  obtain ⟨h1, h2, h3, h4, h5, h6⟩ := macArg_all h
  have z1 : (putW p 4).size = 4 := putW_is p 4 (by omega) h1
  have z2 : (putW q 2).size = 2 := putW_is q 2 (by omega) h2
  have z3 : (putW r 2).size = 2 := putW_is r 2 (by omega) h3
  have z4 : (putW s 4).size = 4 := putW_is s 4 (by omega) h4
  have z5 : (putW t 4).size = 4 := putW_is t 4 (by omega) h5
  have z6 : (putW i 1).size = 1 := putW_is i 1 (by omega) h6
  rw [macIn_yes h]
  simp only [ByteArray.size_append]
  omega
/-- The fields are read back. -/
theorem macIn_back {p q r s t i : Int} (h : macArg p q r s t i = true) : ((gw (macIn p q r s t i) 0 4 : Nat) : Int) = p ∧ ((gw (macIn p q r s t i) 4 2 : Nat) : Int) = q ∧ ((gw (macIn p q r s t i) 6 2 : Nat) : Int) = r ∧ ((gw (macIn p q r s t i) 8 4 : Nat) : Int) = s ∧ ((gw (macIn p q r s t i) 12 4 : Nat) : Int) = t ∧ ((gw (macIn p q r s t i) 16 1 : Nat) : Int) = i := by
  obtain ⟨h1, h2, h3, h4, h5, h6⟩ := macArg_all h
  have z1 : (putW p 4).size = 4 := putW_is p 4 (by omega) h1
  have z2 : (putW q 2).size = 2 := putW_is q 2 (by omega) h2
  have z3 : (putW r 2).size = 2 := putW_is r 2 (by omega) h3
  have z4 : (putW s 4).size = 4 := putW_is s 4 (by omega) h4
  have z5 : (putW t 4).size = 4 := putW_is t 4 (by omega) h5
  have z6 : (putW i 1).size = 1 := putW_is i 1 (by omega) h6
  have e : macIn p q r s t i = putW p 4 ++ (putW q 2 ++ (putW r 2 ++ (putW s 4 ++ (putW t 4 ++ (putW i 1))))) := by rw [macIn_yes h]; simp only [ByteArray.append_assoc]
  generalize macIn p q r s t i = x at e ⊢
  have g1 := gw_back p 4 0 (by omega) h1 ⟨#[]⟩ (putW q 2 ++ (putW r 2 ++ (putW s 4 ++ (putW t 4 ++ (putW i 1))))) x (by rw [e]; exact ByteArray.empty_append.symm) (rfl)
  have g2 := gw_back q 2 4 (by omega) h2 (putW p 4) (putW r 2 ++ (putW s 4 ++ (putW t 4 ++ (putW i 1)))) x (by rw [e]; rfl) (z1)
  have g3 := gw_back r 2 6 (by omega) h3 (putW p 4 ++ putW q 2) (putW s 4 ++ (putW t 4 ++ (putW i 1))) x (by rw [e]; simp only [ByteArray.append_assoc]; rfl) (by simp only [ByteArray.size_append]; omega)
  have g4 := gw_back s 4 8 (by omega) h4 (putW p 4 ++ putW q 2 ++ putW r 2) (putW t 4 ++ (putW i 1)) x (by rw [e]; simp only [ByteArray.append_assoc]; rfl) (by simp only [ByteArray.size_append]; omega)
  have g5 := gw_back t 4 12 (by omega) h5 (putW p 4 ++ putW q 2 ++ putW r 2 ++ putW s 4) (putW i 1) x (by rw [e]; simp only [ByteArray.append_assoc]; rfl) (by simp only [ByteArray.size_append]; omega)
  have g6 := gw_back i 1 16 (by omega) h6 (putW p 4 ++ putW q 2 ++ putW r 2 ++ putW s 4 ++ putW t 4) ⟨#[]⟩ x (by rw [e]; simp only [ByteArray.append_assoc]; exact congrArg (fun y => putW p 4 ++ (putW q 2 ++ (putW r 2 ++ (putW s 4 ++ (putW t 4 ++ (y)))))) ByteArray.append_empty.symm) (by simp only [ByteArray.size_append]; omega)
  exact ⟨g1, g2, g3, g4, g5, g6⟩
/-- Fields that differ make inputs that differ. -/
theorem macIn_inj {p q r s t i p' q' r' s' t' i' : Int} (h : macArg p q r s t i = true) (h' : macArg p' q' r' s' t' i' = true) (e : macIn p q r s t i = macIn p' q' r' s' t' i') :
    p = p' ∧ q = q' ∧ r = r' ∧ s = s' ∧ t = t' ∧ i = i' := by
  obtain ⟨a1, a2, a3, a4, a5, a6⟩ := macIn_back h
  obtain ⟨b1, b2, b3, b4, b5, b6⟩ := macIn_back h'
  rw [e] at a1 a2 a3 a4 a5 a6
  exact ⟨a1.symm.trans b1, a2.symm.trans b2, a3.symm.trans b3, a4.symm.trans b4, a5.symm.trans b5, a6.symm.trans b6⟩
/-- Three cells of a block, kept over a call that makes memory of its own. -/
theorem keep3 {w w' : World} {g : Nat} {v0 v1 v2 : Value} (h : g < w.heap.size ∧ w.cell? ⟨g, 0, none⟩ = some v0 ∧ w.cell? ⟨g, 1, none⟩ = some v1 ∧ w.cell? ⟨g, 2, none⟩ = some v2) (hb : Below w.heap.size w w') :
    g < w'.heap.size ∧ w'.cell? ⟨g, 0, none⟩ = some v0 ∧ w'.cell? ⟨g, 1, none⟩ = some v1 ∧ w'.cell? ⟨g, 2, none⟩ = some v2 :=
  ⟨Nat.lt_of_lt_of_le h.1 hb.size, (hb.cell (p := ⟨g, 0, none⟩) h.1).trans h.2.1, (hb.cell (p := ⟨g, 1, none⟩) h.1).trans h.2.2.1, (hb.cell (p := ⟨g, 2, none⟩) h.1).trans h.2.2.2⟩
end Go.Proofs.YtobfgkiccmhgdaaGreat
