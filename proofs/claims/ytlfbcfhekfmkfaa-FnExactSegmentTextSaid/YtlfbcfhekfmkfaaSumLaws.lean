/- Plain lemmas: a text with its sum sums up, and no longer with one byte turned. Nothing here is a claim. -/
import Derived.Test.YtlfbcfhekfmkfaaSumKit
import Derived.Test.YtlfbcfhekfmkfaaPutKit
namespace Go.Proofs.Ytlfbcfhekfmkfaa
open Go.RowKit Go.Lib

theorem putW_sum (s : ByteArray) : ∃ c : Nat, sumOf s = c ∧ c ≤ 65535 ∧ putW (sumOf s) 2 = ⟨#[UInt8.ofNat (c / 256), UInt8.ofNat c]⟩ := by
  have h := sumOf_bd s
  refine ⟨(sumOf s).toNat, by omega, by omega, ?_⟩
  unfold putW
  rw [if_pos ⟨by omega, by omega, Int.lt_of_le_of_lt h.2 (by decide)⟩]
  simp [wb, wbAt, List.range, List.range.loop]
theorem wsum_two (x y : UInt8) : wsum ⟨#[x, y]⟩ = 256 * x.toNat + y.toNat := by simp [wsum, sm]
theorem wsum_seal (s : ByteArray) (h : s.size % 2 = 0) : ∃ c : Nat, sumOf s = c ∧ wsum (s ++ putW (sumOf s) 2) = wsum s + c := by
  obtain ⟨c, h1, h2, h3⟩ := putW_sum s
  refine ⟨c, h1, ?_⟩
  rw [wsum_append s _ h, h3, wsum_two, UInt8.toNat_ofNat', UInt8.toNat_ofNat']
  omega
theorem seal_size (s : ByteArray) : (s ++ putW (sumOf s) 2).size = s.size + 2 := by
  obtain ⟨c, h1, h2, h3⟩ := putW_sum s
  rw [h3, ByteArray.size_append]; rfl
theorem seal_right (s : ByteArray) (h : s.size % 2 = 0) : sumRight (s ++ putW (sumOf s) 2) = true := by
  obtain ⟨c, h1, h2⟩ := wsum_seal s h
  rw [sumRight_iff, h2]
  apply decide_eq_true
  unfold sumOf foldI at h1
  split at h1 <;> omega
/-- A text with one byte set anew. -/
def turn (t : ByteArray) (i : Nat) (y : UInt8) : ByteArray := ⟨(t.data.toList.set i y).toArray⟩
theorem turn_size (t : ByteArray) (i : Nat) (y : UInt8) : (turn t i y).size = t.size := by
  show (t.data.toList.set i y).toArray.size = _
  simp
theorem turn_wrong (t : ByteArray) (i : Nat) (y : UInt8) (hi : i < t.size) (hr : sumRight t = true) (hy : y ≠ t[i]) : sumRight (turn t i y) = false := by
  have hl : i < t.data.toList.length := by simpa using hi
  have h := sm_set true t.data.toList i y hl
  have e : t.data.toList[i] = t[i] := by simp [ByteArray.getElem_eq_getElem_data]
  have e2 : wsum (turn t i y) = sm true (t.data.toList.set i y) := rfl
  have e3 : wsum t = sm true t.data.toList := rfl
  rw [e, ← e2, ← e3] at h
  rw [sumRight_iff] at hr ⊢
  have hr := of_decide_eq_true hr
  apply decide_eq_false
  have h1 := y.toNat_lt
  have h2 := t[i].toNat_lt
  have h3 : y.toNat ≠ t[i].toNat := fun e => hy (UInt8.toNat_inj.1 e)
  rintro ⟨_, h4⟩
  cases hf : flip true i <;> simp only [hf, if_true, Bool.false_eq_true, if_false] at h <;> omega
/-- What is xored with a byte above 0 is another. -/
theorem xor_ne (x y : UInt8) (h : y ≠ 0) : x ^^^ y ≠ x := by
  intro e
  have : x ^^^ (x ^^^ y) = x ^^^ x := by rw [e]
  rw [← UInt8.xor_assoc, UInt8.xor_self, UInt8.zero_xor] at this
  exact h this
theorem xor_bits (x y : UInt8) : bits .xor .u8 (x.toNat : Int) (y.toNat : Int) = ((x ^^^ y).toNat : Int) := by
  have h1 (z : UInt8) : (BitVec.ofInt 8 (z.toNat : Int)).toNat = z.toNat := by
    rw [BitVec.ofInt_natCast, BitVec.toNat_ofNat]; exact Nat.mod_eq_of_lt z.toNat_lt
  have h3 : bits .xor .u8 (x.toNat : Int) (y.toNat : Int) = IntKind.u8.wrap ((BitVec.ofInt 8 (x.toNat : Int) ^^^ BitVec.ofInt 8 (y.toNat : Int)).toNat : Int) := rfl
  have h4 : (BitVec.ofInt 8 (x.toNat : Int) ^^^ BitVec.ofInt 8 (y.toNat : Int)).toNat = (x ^^^ y).toNat := by
    rw [BitVec.toNat_xor, h1, h1, UInt8.toNat_xor]
  rw [h3, h4]
  obtain ⟨z, hz⟩ : ∃ z : UInt8, x ^^^ y = z := ⟨_, rfl⟩
  rw [hz]
  have h5 := z.toNat_lt
  simp only [IntKind.wrap, IntKind.bits, IntKind.signed]
  simp
  omega
end Go.Proofs.Ytlfbcfhekfmkfaa
