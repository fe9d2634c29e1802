/- Plain lemmas: a segment's text is read as the segment between its addresses, and between no others that differ in the last byte. Nothing here is a claim. -/
import Derived.Test.YtlfbcfhekfmkfaaSegTxt
import Derived.Test.YtlfbcfhekfmkfaaKit
namespace Go.Proofs.Ytlfbcfhekfmkfaa
open Go.RowKit Go.Lib

theorem putW_some {n : Int} {k : Nat} (hk : 1 ≤ k ∧ k ≤ 6) (h : putW n k ≠ ⟨#[]⟩) : wordOk n (8 * k) = true := by
  cases hw : wordOk n (8 * k) with
  | true => rfl
  | false => exact absurd (putW_ok n k (by omega) hw) h
theorem wordOk_of {n : Int} {k : Nat} (hk : 1 ≤ k ∧ k ≤ 6) (h0 : 0 ≤ n) (h1 : n < 256 ^ k) : wordOk n (8 * k) = true := by
  unfold wordOk
  apply decide_eq_true
  refine ⟨by omega, h0, ?_⟩
  have : (2 : Int) ^ (8 * (k : Int)).toNat = 256 ^ k := by
    rw [show (8 * (k : Int)).toNat = 8 * k by omega, Int.pow_mul]; rfl
  rw [this]; exact h1
theorem putW_ne {n : Int} {k : Nat} (hk : 1 ≤ k ∧ k ≤ 6) (h : wordOk n (8 * k) = true) : putW n k ≠ ⟨#[]⟩ := by
  intro e
  have := putW_len n k hk h
  rw [e] at this
  have h0 : (⟨#[]⟩ : ByteArray).size = 0 := rfl
  omega
/-- Where a pseudo-header is, its parts are words. -/
theorem segPs_words {s d : Int} {M : Nat} (h : segPs s d M ≠ ⟨#[]⟩) : wordOk s 32 = true ∧ wordOk d 32 = true ∧ wordOk (M : Int) 16 = true := by
  unfold segPs pseudo at h
  by_cases hc : putW s 4 = ⟨#[]⟩ ∨ putW d 4 = ⟨#[]⟩ ∨ putW M 2 = ⟨#[]⟩
  · rw [if_pos hc] at h; exact absurd rfl h
  · refine ⟨putW_some (k := 4) (by omega) (fun e => hc (.inl e)), putW_some (k := 4) (by omega) (fun e => hc (.inr (.inl e))), putW_some (k := 2) (by omega) (fun e => hc (.inr (.inr e)))⟩
theorem segPs_eq {s d : Int} {M : Nat} (h1 : wordOk s 32 = true) (h2 : wordOk d 32 = true) (h3 : wordOk (M : Int) 16 = true) : segPs s d M = putW s 4 ++ putW d 4 ++ ⟨#[0, 6]⟩ ++ putW M 2 := by
  unfold segPs pseudo
  rw [if_neg]
  rintro (e | e | e)
  · exact putW_ne (k := 4) (by omega) h1 e
  · exact putW_ne (k := 4) (by omega) h2 e
  · exact putW_ne (k := 2) (by omega) h3 e
theorem len_word9 (M : Nat) (h : M ≤ 1460) : wordOk (M : Int) 16 = true := wordOk_of (k := 2) (by omega) (by omega) (by show (M : Int) < 65536; omega)
theorem segM_le {x : Seg} (h : segOk x = true) : 20 + (optText x.o).size + x.b.size ≤ 1460 := by
  have h1 := (optText_size x.o).2
  have h2 := (segOk_all h).2.2.2.2.2.2.2
  omega
theorem segFst_size {x : Seg} (h : segOk x = true) : (segFst x (optText x.o)).size = 16 := by
  obtain ⟨o1, o2, o3, o4, o5, o6, _, _⟩ := segOk_all h
  have h1 := optText_size x.o
  have oN : wordOk ((((20 + (optText x.o).size) / 4 * 16 : Nat)) : Int) (8 * (1 : Nat)) = true := wordOk_of (k := 1) (by omega) (by omega) (by show _ < (256 : Int); omega)
  have z1 : (putW x.p 2).size = 2 := putW_len x.p 2 (by omega) o1
  have z2 : (putW x.d 2).size = 2 := putW_len x.d 2 (by omega) o2
  have z3 : (putW x.q 4).size = 4 := putW_len x.q 4 (by omega) o4
  have z4 : (putW x.a 4).size = 4 := putW_len x.a 4 (by omega) o5
  have z5 : (putW ((((20 + (optText x.o).size) / 4 * 16 : Nat)) : Int) 1).size = 1 := putW_len _ 1 (by omega) oN
  have z6 : (putW x.g 1).size = 1 := putW_len x.g 1 (by omega) (wordOk6 o6)
  have z7 : (putW x.n 2).size = 2 := putW_len x.n 2 (by omega) o3
  unfold segFst
  simp only [ByteArray.size_append]
  omega
theorem zero_size : (⟨#[0, 0]⟩ : ByteArray).size = 2 := rfl
theorem sum_size (s : ByteArray) : (putW (sumOf s) 2).size = 2 := putW_len (sumOf s) 2 (by omega) (seg_sum s)
/-- The sum of a text with its checksum, behind a pseudo-header. -/
theorem seg_wsum (P A E S : ByteArray) (hP : P.size = 12) (hA : A.size = 16) : ∃ c : Nat, sumOf S = c ∧ wsum (P ++ (A ++ putW (sumOf S) 2 ++ E)) = wsum P + wsum A + c + wsum E := by
  obtain ⟨c, h1, h2, h3⟩ := putW_sum S
  refine ⟨c, h1, ?_⟩
  have hK := sum_size S
  have hc : wsum (putW (sumOf S) 2) = c := by
    rw [h3, wsum_two, UInt8.toNat_ofNat', UInt8.toNat_ofNat']; omega
  rw [wsum_append _ _ (by omega), ByteArray.append_assoc, wsum_append _ _ (by omega), wsum_append _ _ (by omega), hc]
  omega
theorem seg_zero_wsum (P A E : ByteArray) (hP : P.size = 12) (hA : A.size = 16) : wsum (P ++ A ++ ⟨#[0, 0]⟩ ++ E) = wsum P + wsum A + wsum E := by
  have h0 : wsum ⟨#[0, 0]⟩ = 0 := rfl
  rw [wsum_append _ _ (by simp only [ByteArray.size_append, zero_size]; omega), wsum_append _ _ (by simp only [ByteArray.size_append]; omega), wsum_append _ _ (by omega), h0]
  omega
theorem segPs_size {s d : Int} {M : Nat} (h : segPs s d M ≠ ⟨#[]⟩) : (segPs s d M).size = 12 := by
  obtain ⟨h1, h2, h3⟩ := segPs_words h
  have z1 : (putW s 4).size = 4 := putW_len s 4 (by omega) h1
  have z2 : (putW d 4).size = 4 := putW_len d 4 (by omega) h2
  have z3 : (putW M 2).size = 2 := putW_len M 2 (by omega) h3
  rw [segPs_eq h1 h2 h3]
  simp only [ByteArray.size_append]
  show (putW s 4).size + (putW d 4).size + 2 + (putW M 2).size = 12
  omega
/-- A text with its checksum sums up behind the pseudo-header P', if that has the sum of P. -/
theorem seg_right (P P' A E : ByteArray) (hP : P.size = 12) (hP' : P'.size = 12) (hA : A.size = 16) (h6 : 0 < wsum P) :
    sumRight (P' ++ (A ++ putW (sumOf (P ++ A ++ ⟨#[0, 0]⟩ ++ E)) 2 ++ E)) = decide (0 < wsum P' + wsum A + (sumOf (P ++ A ++ ⟨#[0, 0]⟩ ++ E)).toNat + wsum E ∧ ((wsum P' : Int) - wsum P) % 65535 = 0) := by
  obtain ⟨c, h1, h2⟩ := seg_wsum P' A E (P ++ A ++ ⟨#[0, 0]⟩ ++ E) hP' hA
  have h3 := seg_zero_wsum P A E hP hA
  rw [sumRight_iff, h2, h1, decide_eq_decide]
  unfold sumOf foldI at h1
  rw [h3] at h1
  simp only [Int.toNat_natCast]
  split at h1 <;> omega
end Go.Proofs.Ytlfbcfhekfmkfaa
