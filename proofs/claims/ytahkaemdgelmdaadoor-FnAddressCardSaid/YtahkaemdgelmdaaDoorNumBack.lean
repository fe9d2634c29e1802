/- What Number answers of Digits. -/
import Derived.Test.YtahkaemdgelmdaaDoorWhole
import Derived.Test.YtahkaemdgelmdaaDoorDigA
import Derived.Test.YtahkaemdgelmdaaDoorNumB
import Derived.Test.YtahkaemdgelmdaaDoorNumD
namespace Go.Proofs.YtahkaemdgelmdaaDoor
open Go.RowKit Go.Lib

theorem dec_allDig (u : Nat) : allDig (decDigits u) := by
  induction u using Nat.strongRecOn with
  | _ u ih =>
    rw [decDigits]
    by_cases h : u < 10
    · rw [dif_pos h]
      intro c hc
      rw [List.mem_singleton.1 hc]; unfold isDig; rw [UInt8.toNat_ofNat']; omega
    · rw [dif_neg h]
      refine allDig_snoc.2 ⟨ih (u / 10) (by omega), ?_⟩
      unfold isDig; rw [UInt8.toNat_ofNat']; omega
theorem val_dec (u : Nat) : val (decDigits u) = u := by
  induction u using Nat.strongRecOn with
  | _ u ih =>
    rw [decDigits]
    by_cases h : u < 10
    · rw [dif_pos h]
      show 10 * 0 + ((UInt8.ofNat (48 + u)).toNat - 48) = u
      rw [UInt8.toNat_ofNat']; omega
    · rw [dif_neg h, val_snoc, ih (u / 10) (by omega), UInt8.toNat_ofNat']; omega
theorem dec_ne (u : Nat) : decDigits u ≠ [] := fun h => by
  have := congrArg List.length h
  rw [decDigits_length] at this
  have := nDigits_pos u
  simp at *; omega
theorem mk_size (l : List UInt8) : (ByteArray.mk l.toArray).size = l.length := by simp [ByteArray.size]
theorem itoa_size (n : Int) (h : I64 n) : (ByteArray.mk (itoa n).toArray).size ≤ 1048576 := by
  rw [mk_size]
  unfold I64 at h
  unfold itoa
  split
  · have := nDigits_le 19 n.natAbs (by omega)
    rw [List.length_cons, decDigits_length]; omega
  · have := nDigits_le 19 n.toNat (by omega)
    rw [decDigits_length]; omega
/-- Number of Digits(n). -/
theorem num_itoa_out (n : Int) (h : n < 0 ∨ 999999999999 < n) : numOut ⟨(itoa n).toArray⟩ = (0, false) := by
  by_cases hn : n < 0
  · obtain ⟨u, rfl⟩ : ∃ u : Nat, n = -(u : Int) := ⟨n.natAbs, by omega⟩
    rw [itoa_neg u (by omega)]
    refine numOut_dig _ 0 (by rw [mk_size]; simp) ?_
    show ¬ isDig 45
    unfold isDig; decide
  · obtain ⟨u, rfl⟩ : ∃ u : Nat, n = (u : Int) := ⟨n.toNat, by omega⟩
    rw [itoa_nonneg]
    refine numOut_len _ (.inr ?_)
    rw [mk_size, decDigits_length]
    rcases Nat.lt_or_ge 12 (nDigits u) with h1 | h1
    · exact h1
    · have h2 := lt_pow_nDigits u
      have h3 : 10 ^ nDigits u ≤ 10 ^ 12 := Nat.pow_le_pow_right (by decide) h1
      omega
theorem num_itoa_in (n : Int) (h0 : 0 ≤ n) (h1 : n ≤ 999999999999) : numOut ⟨(itoa n).toArray⟩ = (n, true) := by
  obtain ⟨u, rfl⟩ : ∃ u : Nat, n = (u : Int) := ⟨n.toNat, by omega⟩
  rw [itoa_nonneg]
  have hl : (ByteArray.mk (decDigits u).toArray).data.toList = decDigits u := rfl
  have hd : allDig (ByteArray.mk (decDigits u).toArray).data.toList := by rw [hl]; exact dec_allDig u
  have e := numOut_good ⟨(decDigits u).toArray⟩ (by rw [mk_size, decDigits_length]; exact nDigits_pos u)
    (by rw [mk_size, decDigits_length]; exact nDigits_le 11 u (by omega)) hd
    ((dec_val _ hd (by rw [hl]; exact dec_ne u)).1 (by rw [hl, val_dec]))
  rw [e, hl, val_dec]
/-- Digits of Number(s). -/
theorem num_back (s : ByteArray) (m : Int) (h : numOut s = (m, true)) : (⟨(itoa m).toArray⟩ : ByteArray) = s ∧ I64 m := by
  unfold numOut at h
  split at h
  · rename_i hc
    obtain ⟨⟨h1, h2⟩, hd, hl⟩ := hc
    simp only [Prod.mk.injEq, and_true] at h
    subst h
    have hne : s.data.toList ≠ [] := fun e => by
      have := congrArg List.length e
      rw [Array.length_toList, ByteArray.size_data, List.length_nil] at this
      omega
    have hv := val_lt _ hd
    have hlen : s.data.toList.length ≤ 12 := by rw [Array.length_toList, ByteArray.size_data]; exact h2
    have hp : 10 ^ s.data.toList.length ≤ 10 ^ 12 := Nat.pow_le_pow_right (by decide) hlen
    refine ⟨?_, by unfold I64; omega⟩
    rw [itoa_nonneg, (dec_val _ hd hne).2 hl]
  · simp at h

end Go.Proofs.YtahkaemdgelmdaaDoor
