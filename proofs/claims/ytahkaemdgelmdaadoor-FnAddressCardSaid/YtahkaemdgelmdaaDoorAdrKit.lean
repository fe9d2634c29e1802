/- Plain lemmas on the text of an address. Nothing here is a claim. -/
import Derived.Test.YtahkaemdgelmdaaDoorNumBack
import Derived.Test.YtahkaemdgelmdaaDoorPartsKit
import Derived.Test.YtahkaemdgelmdaaDoorWordLaws
namespace Go.Proofs.YtahkaemdgelmdaaDoor
open Go.RowKit Go.Lib

/-- The decimal text of a byte. -/
def dig1 (c : UInt8) : ByteArray := ⟨(itoa (c.toNat : Int)).toArray⟩
theorem dig1_num (c : UInt8) : numOut (dig1 c) = ((c.toNat : Int), true) := num_itoa_in _ (by omega) (by have := c.toNat_lt; omega)
theorem dig1_size (c : UInt8) : (dig1 c).size ≤ 12 := by
  rcases Nat.lt_or_ge 12 (dig1 c).size with h | h
  · have h1 := numOut_len (dig1 c) (.inr h)
    rw [dig1_num] at h1; exact absurd (show true = false from congrArg Prod.snd h1) (by decide)
  · exact h
/-- The bytes' texts. -/
def digs (t : ByteArray) : List ByteArray := t.data.toList.map dig1
theorem digs_length (t : ByteArray) : (digs t).length = t.size := by simp [digs]
theorem digs_get (t : ByteArray) (k : Nat) (h : k < t.size) (h2 : k < (digs t).length) : (digs t)[k] = dig1 t[k] := by
  show (List.map dig1 t.data.toList)[k]'(by simpa using h) = _
  rw [List.getElem_map]; rfl
theorem digs_snoc (t : ByteArray) (k : Nat) (h : k < t.size) : strVals ((digs t).take k) ++ [.string (dig1 t[k])] = strVals ((digs t).take (k + 1)) := by
  have h2 : k < (digs t).length := by rw [digs_length]; exact h
  rw [List.take_succ_eq_append_getElem h2, digs_get t k h h2]; simp [strVals]
theorem lens_dig (l : List UInt8) : lens (bytesOf (l.map dig1)) ≤ 12 * l.length := by
  induction l with
  | nil => simp [lens, bytesOf]
  | cons a l ih =>
    have h := dig1_size a
    have h2 : (dig1 a).data.toList.length = (dig1 a).size := by simp
    simp only [lens, bytesOf, List.map_cons, List.sum_cons, List.length_cons] at ih ⊢
    omega
theorem lens_digs (t : ByteArray) (h : t.size ≤ 6) : lens (bytesOf (digs t)) ≤ 1048576 := by
  have := lens_dig t.data.toList
  have h2 : t.data.toList.length = t.size := by simp
  unfold digs; omega
/-- The bytes' texts, joined by points. -/
def textOf (t : ByteArray) : ByteArray := ⟨(jn (digs t) ⟨#[46]⟩ (digs t).length).toArray⟩
theorem textOf_none : textOf ⟨#[]⟩ = ⟨#[]⟩ := rfl
/-- What AddressText answers. -/
def adrText (n : Int) : ByteArray := textOf (putW n 4)
theorem putW_size (n : Int) : putW n 4 = ⟨#[]⟩ ∨ (putW n 4).size = 4 := by
  unfold putW
  split
  · exact .inr (by show (wb _ 4).toArray.size = 4; rw [List.size_toArray, wb_length])
  · exact .inl rfl
theorem putW_six (n : Int) : (putW n 4).size ≤ 6 := by
  rcases putW_size n with h | h
  · rw [h]; decide
  · omega
theorem adrText_small (n : Int) : (adrText n).size ≤ 1000 := by
  have h := jn_length (digs (putW n 4)) ⟨#[46]⟩ (digs (putW n 4)).length
  have h1 := lens_dig (putW n 4).data.toList
  have h2 : (putW n 4).data.toList.length = (putW n 4).size := by simp
  have h3 := putW_six n
  have h4 := digs_length (putW n 4)
  have h5 : (⟨#[46]⟩ : ByteArray).size = 1 := rfl
  have h6 : (adrText n).size = (jn (digs (putW n 4)) ⟨#[46]⟩ (digs (putW n 4)).length).length := by show (List.toArray _).size = _; rw [List.size_toArray]
  unfold digs at h h4 h6
  rw [h5] at h
  unfold digs at *
  omega
theorem adrText_size (n : Int) : (adrText n).size ≤ 1048576 := Nat.le_trans (adrText_small n) (by decide)

/-- The first k of the pieces ps, read as an address. -/
noncomputable def adn (ps : List ByteArray) : Nat → Nat
  | 0 => 0
  | k + 1 => 256 * adn ps k + ((numOut (ps.getD k ⟨#[]⟩)).1 % 256).toNat
theorem adn_lt (ps : List ByteArray) (k : Nat) : adn ps k < 256 ^ k := by
  induction k with
  | zero => simp [adn]
  | succ k ih => simp only [adn, Nat.pow_succ]; omega
theorem adn_bd (ps : List ByteArray) (k : Nat) (h : k ≤ 4) : adn ps k ≤ 4294967295 := by
  have h1 := adn_lt ps k
  have h2 : 256 ^ k ≤ 4294967296 := Nat.le_trans (Nat.pow_le_pow_right (by decide) h) (by decide)
  omega
/-- What Address answers. -/
noncomputable def adrOut (s : ByteArray) : Int × Bool :=
  if s.size = 0 ∨ adrText (adn (pieces s 46) (min (pieces s 46).length 4)) ≠ s then (0, false) else ((adn (pieces s 46) (min (pieces s 46).length 4) : Int), true)
/-- Piece number j is the number of a byte. -/
def GoodAt (ps : List ByteArray) (j : Nat) : Prop := ∃ m : Nat, numOut (ps.getD j ⟨#[]⟩) = ((m : Int), true) ∧ m ≤ 255
def Good (ps : List ByteArray) : Prop := ps.length = 4 ∧ ∀ j, j < 4 → GoodAt ps j
theorem numOut_bd (s : ByteArray) : 0 ≤ (numOut s).1 ∧ (numOut s).1 ≤ 999999999999 := by
  unfold numOut
  split
  · rename_i h
    have h1 := val_lt s.data.toList h.2.1
    have h2 : s.data.toList.length = s.size := by simp
    have h3 : 10 ^ s.data.toList.length ≤ 10 ^ 12 := Nat.pow_le_pow_right (by decide) (by omega)
    exact ⟨by simp, by simp only; omega⟩
  · exact ⟨by simp, by simp⟩
theorem adn_good {ps : List ByteArray} {j m : Nat} (h : numOut (ps.getD j ⟨#[]⟩) = ((m : Int), true)) (hm : m ≤ 255) : adn ps (j + 1) = 256 * adn ps j + m := by
  simp only [adn]; rw [h]; simp only; omega
theorem num_dig {p : ByteArray} {m : Nat} (h : numOut p = ((m : Int), true)) (hm : m ≤ 255) : dig1 (UInt8.ofNat m) = p := by
  unfold dig1
  rw [UInt8.toNat_ofNat', show m % 2 ^ 8 = m by omega]
  exact (num_back p m h).1
theorem wb4 (n : Nat) : wb n 4 = [wbAt n 4 0, wbAt n 4 1, wbAt n 4 2, wbAt n 4 3] := rfl
theorem putW_4 (n : Nat) (h : n < 256 ^ 4) : putW n 4 = ⟨(wb n 4).toArray⟩ := by
  unfold putW
  rw [if_pos]
  · simp
  · refine ⟨by omega, by omega, ?_⟩
    rw [show (8 * (4 : Int)).toNat = 32 by rfl]
    have : (256 : Nat) ^ 4 = 4294967296 := by decide
    have h2 : (2 : Int) ^ 32 = 4294967296 := by decide
    omega
theorem adrOut_yes (s : ByteArray) (h : Good (pieces s 46)) : adrOut s = ((adn (pieces s 46) 4 : Int), true) := by
  have hj := pieces_join s 46
  have hs : s.size ≠ 0 := fun h0 => by
    have hd : s.data.toList = [] := List.eq_nil_of_length_eq_zero (by simpa using h0)
    have h1 := h.1
    unfold pieces at h1; rw [hd] at h1; simp [cuts] at h1
  obtain ⟨hl, hg⟩ := h
  unfold adrOut
  rw [hl, show min 4 4 = 4 by rfl]
  generalize pieces s 46 = ps at *
  obtain ⟨m0, e0, b0⟩ := hg 0 (by omega)
  obtain ⟨m1, e1, b1⟩ := hg 1 (by omega)
  obtain ⟨m2, e2, b2⟩ := hg 2 (by omega)
  obtain ⟨m3, e3, b3⟩ := hg 3 (by omega)
  have ha : adn ps 4 = ((m0 * 256 + m1) * 256 + m2) * 256 + m3 := by
    rw [adn_good e3 b3, adn_good e2 b2, adn_good e1 b1, adn_good e0 b0]; simp only [adn]; omega
  have hlt := adn_lt ps 4
  have ht : adrText (adn ps 4 : Nat) = s := by
    unfold adrText
    rw [putW_4 _ hlt]
    have hw : wb (adn ps 4) 4 = [UInt8.ofNat m0, UInt8.ofNat m1, UInt8.ofNat m2, UInt8.ofNat m3] := by
      rw [wb4]
      have k0 : wbAt (adn ps 4) 4 0 = UInt8.ofNat m0 := by apply UInt8.toNat_inj.1; rw [wbAt_nat, ha, UInt8.toNat_ofNat', show 256 ^ (4 - 1 - 0) = 16777216 by rfl]; omega
      have k1 : wbAt (adn ps 4) 4 1 = UInt8.ofNat m1 := by apply UInt8.toNat_inj.1; rw [wbAt_nat, ha, UInt8.toNat_ofNat', show 256 ^ (4 - 1 - 1) = 65536 by rfl]; omega
      have k2 : wbAt (adn ps 4) 4 2 = UInt8.ofNat m2 := by apply UInt8.toNat_inj.1; rw [wbAt_nat, ha, UInt8.toNat_ofNat', show 256 ^ (4 - 1 - 2) = 256 by rfl]; omega
      have k3 : wbAt (adn ps 4) 4 3 = UInt8.ofNat m3 := by apply UInt8.toNat_inj.1; rw [wbAt_nat, ha, UInt8.toNat_ofNat', show 256 ^ (4 - 1 - 3) = 1 by rfl]; omega
      rw [k0, k1, k2, k3]
    have hd : digs ⟨(wb (adn ps 4) 4).toArray⟩ = ps := by
      unfold digs
      rw [hw]
      match ps, hl with
      | [p0, p1, p2, p3], _ =>
        simp only [List.getD_cons_zero, List.getD_cons_succ] at e0 e1 e2 e3
        simp [num_dig e0 b0, num_dig e1 b1, num_dig e2 b2, num_dig e3 b3]
    unfold textOf
    rw [hd, hj]
  rw [if_neg (fun hh => hh.elim hs (fun hn => hn ht))]
theorem dot_dig (c : UInt8) : (46 : UInt8) ∉ (itoa (c.toNat : Int)) := fun hm => by
  rw [itoa_nonneg] at hm
  have := dec_allDig c.toNat 46 hm
  unfold isDig at this; simp at this
theorem pieces_text (n : Nat) (hlt : n < 256 ^ 4) : pieces (adrText n) 46 = [dig1 (wbAt n 4 0), dig1 (wbAt n 4 1), dig1 (wbAt n 4 2), dig1 (wbAt n 4 3)] := by
  obtain ⟨s, ht⟩ : ∃ s, adrText n = s := ⟨_, rfl⟩
  rw [ht]
  unfold adrText at ht
  rw [putW_4 n hlt] at ht
  have hd : digs ⟨(wb n 4).toArray⟩ = [dig1 (wbAt n 4 0), dig1 (wbAt n 4 1), dig1 (wbAt n 4 2), dig1 (wbAt n 4 3)] := rfl
  have hl : s.data.toList = itoa ((wbAt n 4 0).toNat : Int) ++ 46 :: (itoa ((wbAt n 4 1).toNat : Int) ++ 46 :: (itoa ((wbAt n 4 2).toNat : Int) ++ 46 :: itoa ((wbAt n 4 3).toNat : Int))) := by
    rw [← ht]
    unfold textOf
    rw [hd]
    simp [jn, bytesOf, dig1, Lib.join, List.intercalate]
  unfold pieces
  rw [hl, cuts_hit _ _ _ (dot_dig _), cuts_hit _ _ _ (dot_dig _), cuts_hit _ _ _ (dot_dig _), cuts_miss _ _ (dot_dig _)]
  rfl
theorem good_text (n : Nat) (hlt : n < 256 ^ 4) : Good (pieces (adrText n) 46) := by
  rw [pieces_text n hlt]
  refine ⟨rfl, fun j hj => ?_⟩
  have h8 := fun i => (wbAt n 4 i).toNat_lt
  match j, hj with
  | 0, _ => exact ⟨_, dig1_num _, by have := h8 0; omega⟩
  | 1, _ => exact ⟨_, dig1_num _, by have := h8 1; omega⟩
  | 2, _ => exact ⟨_, dig1_num _, by have := h8 2; omega⟩
  | 3, _ => exact ⟨_, dig1_num _, by have := h8 3; omega⟩
theorem adrOut_no (s : ByteArray) (h : ¬ Good (pieces s 46)) : adrOut s = (0, false) := by
  unfold adrOut
  rw [if_pos]
  refine Classical.byContradiction fun hc => h ?_
  obtain ⟨hs, ht⟩ := not_or.1 hc
  have ht := Classical.not_not.1 ht
  have hk : min (pieces s 46).length 4 ≤ 4 := by omega
  have hlt : adn (pieces s 46) (min (pieces s 46).length 4) < 256 ^ 4 := by
    have := adn_bd (pieces s 46) _ hk
    omega
  have hg := good_text _ hlt
  rw [ht] at hg
  exact hg
end Go.Proofs.YtahkaemdgelmdaaDoor
