/- Plain lemmas on reading a word out of bytes. Nothing here is a claim. -/
import Derived.Test.YtlfbcfhekfmkfaaPutKit
import Derived.Test.YtlfbcfhekfmkfaaUnhexKit
namespace Go.Proofs.Ytlfbcfhekfmkfaa
open Go.RowKit Go.Lib

/-- The first j bytes of s from a on, read as a word. -/
def gw (s : ByteArray) (a : Nat) : Nat → Nat
  | 0 => 0
  | j + 1 => 256 * gw s a j + (at8 s (a + j)).toNat
theorem gw_lt (s : ByteArray) (a j : Nat) : gw s a j < 256 ^ j := by
  induction j with
  | zero => simp [gw]
  | succ j ih =>
    have h := (at8 s (a + j)).toNat_lt
    simp only [gw, Nat.pow_succ]; omega
theorem pow256_le (j : Nat) (h : j ≤ 6) : 256 ^ j ≤ 281474976710656 := Nat.le_trans (Nat.pow_le_pow_right (by decide) h) (by decide)
theorem gw_bd (s : ByteArray) (a j : Nat) (h : j ≤ 6) : gw s a j ≤ 281474976710655 := by
  have h1 := gw_lt s a j
  have h2 := pow256_le j h
  omega
theorem gw_bd5 (s : ByteArray) (a j : Nat) (h : j < 6) : gw s a j ≤ 1099511627775 := by
  have h1 := gw_lt s a j
  have h2 : 256 ^ j ≤ 1099511627776 := Nat.le_trans (Nat.pow_le_pow_right (by decide) (show j ≤ 5 by omega)) (by decide)
  omega

/-- What GetWord answers. -/
def getW (s : ByteArray) (a n : Int) : Int × Bool := if (1 ≤ n ∧ n ≤ 6) ∧ 0 ≤ a ∧ a ≤ s.size - n then (gw s a.toNat n.toNat, true) else (0, false)
theorem getW_no (s : ByteArray) (a n : Int) (h : ¬ (1 ≤ n ∧ n ≤ 6)) : getW s a n = (0, false) := by unfold getW; rw [if_neg (fun hh => h hh.1)]
theorem getW_no2 (s : ByteArray) (a n : Int) (h : ¬ (0 ≤ a ∧ a ≤ s.size - n)) : getW s a n = (0, false) := by unfold getW; rw [if_neg (fun hh => h hh.2)]
theorem getW_yes (s : ByteArray) (a n : Nat) (h : 1 ≤ n ∧ n ≤ 6) (h2 : a + n ≤ s.size) : getW s a n = ((gw s a n : Int), true) := by
  unfold getW; rw [if_pos ⟨by omega, by omega, by omega⟩]; simp

/-- A byte put behind a word. -/
theorem or_byte (x b : Nat) (hx : x ≤ 1099511627775) (hb : b < 256) : bits .or .i64 ((x : Int) * 256) (b : Int) = ((256 * x + b : Nat) : Int) := by
  have h1 : (BitVec.ofInt 64 ((x : Int) * 256)).toNat = x * 256 := by
    rw [show (x : Int) * 256 = ((x * 256 : Nat) : Int) by simp, BitVec.ofInt_natCast, BitVec.toNat_ofNat]; exact Nat.mod_eq_of_lt (by omega)
  have h2 : (BitVec.ofInt 64 (b : Int)).toNat = b := by
    rw [BitVec.ofInt_natCast, BitVec.toNat_ofNat]; exact Nat.mod_eq_of_lt (by omega)
  have h4 : (BitVec.ofInt 64 ((x : Int) * 256) ||| BitVec.ofInt 64 (b : Int)).toNat = 256 * x + b := by
    rw [BitVec.toNat_or, h1, h2]
    have h := Nat.shiftLeft_add_eq_or_of_lt (show b < 2 ^ 8 by omega) x
    rw [Nat.shiftLeft_eq] at h
    rw [show x * 256 = x * 2 ^ 8 by rfl, ← h]; omega
  have h3 : bits .or .i64 ((x : Int) * 256) (b : Int) = IntKind.i64.wrap ((BitVec.ofInt 64 ((x : Int) * 256) ||| BitVec.ofInt 64 (b : Int)).toNat : Int) := rfl
  rw [h3, h4, IntKind.wrap_i64]
  omega
end Go.Proofs.Ytlfbcfhekfmkfaa
namespace Go.Proofs.Ytlfbcfhekfmkfaa
open Go.RowKit Go.Lib

theorem wbAt_nat (m k i : Nat) : (wbAt m k i).toNat = m / 256 ^ (k - 1 - i) % 256 := by unfold wbAt; rw [UInt8.toNat_ofNat']
theorem gw_put (s : ByteArray) (a m k : Nat) (hm : m < 256 ^ k) (h : ∀ i, i < k → at8 s (a + i) = wbAt m k i) (j : Nat) (hj : j ≤ k) : gw s a j = m / 256 ^ (k - j) := by
  induction j with
  | zero => simp only [gw, Nat.sub_zero]; exact (Nat.div_eq_of_lt hm).symm
  | succ j ih =>
    simp only [gw]
    rw [ih (by omega), h j (by omega), wbAt_nat, show k - (j + 1) = k - 1 - j by omega, show k - j = (k - 1 - j) + 1 by omega, Nat.pow_succ, ← Nat.div_div_eq_div_mul]
    omega
theorem gw_div (s : ByteArray) (a j : Nat) : gw s a (j + 1) / 256 = gw s a j := by
  have h := (at8 s (a + j)).toNat_lt
  simp only [gw]; omega
theorem gw_divs (s : ByteArray) (a j d : Nat) : gw s a (j + d) / 256 ^ d = gw s a j := by
  induction d with
  | zero => simp
  | succ d ih => rw [Nat.pow_succ, Nat.mul_comm, ← Nat.div_div_eq_div_mul, ← Nat.add_assoc, gw_div, ih]
theorem wb_gw (s : ByteArray) (a k i : Nat) (h : i < k) : wbAt (gw s a k) k i = at8 s (a + i) := by
  apply UInt8.toNat_inj.1
  have h8 := (at8 s (a + i)).toNat_lt
  rw [wbAt_nat, show gw s a k = gw s a ((i + 1) + (k - 1 - i)) by rw [show (i + 1) + (k - 1 - i) = k by omega], gw_divs]
  simp only [gw]; omega

/-- The bytes of s from a on, k of them. -/
def cutB (s : ByteArray) (a k : Nat) : List UInt8 := (s.data.toList.drop a).take k
theorem wb_cut (s : ByteArray) (a k : Nat) (h : a + k ≤ s.size) : wb (gw s a k) k = cutB s a k := by
  apply List.ext_getElem?
  intro i
  by_cases hi : i < k
  · rw [wb_get _ _ _ hi, wb_gw s a k i hi]
    have h2 : a + i < s.data.toList.length := by rw [Array.length_toList, ByteArray.size_data]; omega
    unfold cutB
    rw [List.getElem?_take, if_pos hi, List.getElem?_drop, List.getElem?_eq_getElem h2]
    unfold at8; rw [List.getD_eq_getElem?_getD, List.getElem?_eq_getElem h2]; rfl
  · unfold cutB
    rw [List.getElem?_eq_none (by rw [wb_length]; omega), List.getElem?_eq_none (by simp; omega)]
theorem put_get (s : ByteArray) (a k : Nat) (hk : 1 ≤ k ∧ k ≤ 6) (h : a + k ≤ s.size) : putW (gw s a k) k = ⟨(cutB s a k).toArray⟩ := by
  unfold putW
  have h1 := gw_lt s a k
  rw [if_pos]
  · rw [← wb_cut s a k h]; simp
  · refine ⟨by omega, by omega, ?_⟩
    rw [show (8 * (k : Int)).toNat = 8 * k by omega]
    have h2 : (2 : Nat) ^ (8 * k) = 256 ^ k := pow8 k
    have h3 : gw s a k < 2 ^ (8 * k) := by rw [h2]; exact h1
    exact_mod_cast h3

theorem cut_extract (s : ByteArray) (a k : Nat) : (⟨(cutB s a k).toArray⟩ : ByteArray) = s.extract a (a + k) := by
  apply ByteArray.ext
  apply Array.toList_inj.1
  unfold cutB
  simp [ByteArray.data_extract, List.extract_eq_take_drop]
/-- What PutWord answers, told apart: nothing, for no word; or k bytes. -/
theorem putW_cases (n s : Int) : (putW n s = ⟨#[]⟩ ∧ (wordOk n (8 * s) = false ∨ s < 1 ∨ 6 < s)) ∨
    (∃ m k : Nat, n = m ∧ s = k ∧ (1 ≤ k ∧ k ≤ 6) ∧ m < 256 ^ k ∧ putW n s = ⟨(wb m k).toArray⟩ ∧ wordOk n (8 * s) = true) := by
  by_cases h : 1 ≤ s ∧ s ≤ 6
  · cases hw : wordOk n (8 * s) with
    | false => exact .inl ⟨putW_ok n s h hw, .inl rfl⟩
    | true =>
      refine .inr ⟨n.toNat, s.toNat, ?_, by omega, by omega, ?_, putW_yes n s h hw, rfl⟩
      · have := wordOk_bd hw; omega
      · have h2 := (of_decide_eq_true hw).2
        rw [show (8 * s).toNat = 8 * s.toNat by omega] at h2
        have h3 : n.toNat < 2 ^ (8 * s.toNat) := by
          have h4 : (n.toNat : Int) < ((2 ^ (8 * s.toNat) : Nat) : Int) := by
            rw [Int.toNat_of_nonneg h2.1]; simpa using h2.2
          exact_mod_cast h4
        rw [pow8] at h3; exact h3
  · exact .inl ⟨putW_no n s h, .inr (by omega)⟩
theorem get_put (m k : Nat) (hk : 1 ≤ k ∧ k ≤ 6) (hm : m < 256 ^ k) (p q : ByteArray) :
    getW (p ++ ⟨(wb m k).toArray⟩ ++ q) p.size k = ((m : Int), true) := by
  have hsz : (p ++ (⟨(wb m k).toArray⟩ : ByteArray) ++ q).size = p.size + k + q.size := by
    rw [ByteArray.size_append, ByteArray.size_append]; show p.size + (wb m k).toArray.size + q.size = _; rw [List.size_toArray, wb_length]
  rw [getW_yes _ _ _ hk (by rw [hsz]; omega)]
  rw [gw_put _ p.size m k hm (fun i hi => ?_) k (Nat.le_refl _)]
  · simp
  · unfold at8
    have e : (p ++ (⟨(wb m k).toArray⟩ : ByteArray) ++ q).data.toList = p.data.toList ++ wb m k ++ q.data.toList := by simp
    rw [e, List.append_assoc, List.getD_eq_getElem?_getD, List.getElem?_append_right (by simp), List.getElem?_append_left (by rw [wb_length]; simp; omega)]
    rw [show p.size + i - p.data.toList.length = i by simp, wb_get m k i hi]; rfl
end Go.Proofs.Ytlfbcfhekfmkfaa
namespace Go.Proofs.Ytlfbcfhekfmkfaa
open Go.RowKit Go.Lib

theorem putW_word (n : Int) (k : Nat) (hk : 1 ≤ k ∧ k ≤ 6) (h : wordOk n (8 * k) = true) : ∃ m : Nat, n = m ∧ m < 256 ^ k ∧ putW n k = ⟨(wb m k).toArray⟩ ∧ (putW n k).size = k := by
  rcases putW_cases n k with ⟨_, h1⟩ | ⟨m, k', rfl, e, _, hm, hp, _⟩
  · rcases h1 with h1 | h1 | h1
    · rw [h] at h1; cases h1
    · omega
    · omega
  · have e' : k = k' := by omega
    subst e'
    refine ⟨m, rfl, hm, hp, ?_⟩
    rw [hp]; show (wb m k).toArray.size = k; rw [List.size_toArray, wb_length]
theorem gw_at (n : Int) (k : Nat) (hk : 1 ≤ k ∧ k ≤ 6) (h : wordOk n (8 * k) = true) (p q : ByteArray) : ((gw (p ++ putW n k ++ q) p.size k : Nat) : Int) = n := by
  obtain ⟨m, rfl, hm, hp, _⟩ := putW_word n k hk h
  rw [hp]
  have h1 := get_put m k hk hm p q
  rw [getW_yes _ _ _ hk (by rw [ByteArray.size_append, ByteArray.size_append]; show p.size + k ≤ p.size + (wb m k).toArray.size + q.size; rw [List.size_toArray, wb_length]; omega)] at h1
  exact (Prod.mk.inj h1).1
/-- A word that stands in a text, read back. -/
theorem gw_back (n : Int) (k i : Nat) (hk : 1 ≤ k ∧ k ≤ 6) (h : wordOk n (8 * k) = true) (p q x : ByteArray) (hx : x = p ++ (putW n k ++ q)) (hi : p.size = i) : ((gw x i k : Nat) : Int) = n := by
  have := gw_at n k hk h p q
  rw [← hi, hx, ← ByteArray.append_assoc]; exact this
theorem gw1 (s : ByteArray) (a : Nat) : gw s a 1 = (at8 s a).toNat := by simp [gw]
theorem gw_word (s : ByteArray) (a k : Nat) (hk : 1 ≤ k ∧ k ≤ 6) : wordOk (gw s a k : Nat) (8 * k) = true := by
  have h := gw_lt s a k
  unfold wordOk
  apply decide_eq_true
  refine ⟨by omega, by omega, ?_⟩
  rw [show (8 * (k : Int)).toNat = 8 * k by omega]
  have h2 : (2 : Nat) ^ (8 * k) = 256 ^ k := pow8 k
  have h3 : gw s a k < 2 ^ (8 * k) := by rw [h2]; exact h
  exact_mod_cast h3
end Go.Proofs.Ytlfbcfhekfmkfaa
