/- Plain lemmas of chapter 3 of the document: folds and sums. Nothing here is a claim. -/
import Derived.Test.YtlfbcfhekfmkfaaWordKit
import Derived.Test.YtlfbcfhekfmkfaaUnhexKit
namespace Go.Proofs.Ytlfbcfhekfmkfaa
open Go.RowKit Go.Lib

/-- What Folded answers. -/
def foldI (n : Int) : Int := if n ≤ 0 then 0 else (n - 1) % 65535 + 1
theorem foldI_neg (n : Int) (h : n < 0) : foldI n = 0 := by unfold foldI; rw [if_pos (by omega)]
theorem foldI_small (n : Int) (h0 : 0 ≤ n) (h : n ≤ 65535) : foldI n = n := by unfold foldI; split <;> omega
theorem foldI_step (n : Int) (h : 65535 < n) : foldI (n / 65536 + n % 65536) = foldI n := by
  unfold foldI; rw [if_neg (by omega), if_neg (by omega)]; omega
theorem foldI_bd (n : Int) : 0 ≤ foldI n ∧ foldI n ≤ 65535 := by unfold foldI; split <;> omega
theorem foldI_rest (n : Int) (h : 0 ≤ n) : (n - foldI n) % 65535 = 0 ∧ foldI n ≤ n := by unfold foldI; split <;> omega

theorem and_mask (n : Int) (h0 : 0 ≤ n) (h : n ≤ 9223372036854775807) : bits .and .i64 n 65535 = n % 65536 := by
  obtain ⟨m, rfl⟩ : ∃ m : Nat, n = (m : Int) := ⟨n.toNat, by omega⟩
  have h1 : (BitVec.ofInt 64 (m : Int)).toNat = m := by
    rw [BitVec.ofInt_natCast, BitVec.toNat_ofNat]; exact Nat.mod_eq_of_lt (by omega)
  have h2 : (BitVec.ofInt 64 (65535 : Int)).toNat = 65535 := by decide
  have h4 : (BitVec.ofInt 64 (m : Int) &&& BitVec.ofInt 64 (65535 : Int)).toNat = m % 65536 := by
    rw [BitVec.toNat_and, h1, h2]; exact Nat.and_two_pow_sub_one_eq_mod m 16
  have h3 : bits .and .i64 (m : Int) 65535 = IntKind.i64.wrap ((BitVec.ofInt 64 (m : Int) &&& BitVec.ofInt 64 (65535 : Int)).toNat : Int) := rfl
  rw [h3, h4, IntKind.wrap_i64]
  omega

/-- The sum of bytes as words, the first of which counts 256 fold (if b). -/
def sm : Bool → List UInt8 → Nat
  | _, [] => 0
  | b, x :: xs => (if b then 256 else 1) * x.toNat + sm (!b) xs
/-- Which of the two places the byte behind n bytes has. -/
def flip (b : Bool) (n : Nat) : Bool := if n % 2 = 0 then b else !b
theorem flip_succ (b : Bool) (n : Nat) : flip (!b) n = flip b (n + 1) := by
  unfold flip
  rcases Nat.mod_two_eq_zero_or_one n with h | h
  · rw [if_pos h, if_neg (by omega)]
  · rw [if_neg (by omega), if_pos (by omega)]; simp
theorem sm_append (b : Bool) (l m : List UInt8) : sm b (l ++ m) = sm b l + sm (flip b l.length) m := by
  induction l generalizing b with
  | nil => simp [sm, flip]
  | cons x xs ih => simp only [List.cons_append, sm, ih, List.length_cons, flip_succ]; omega
theorem sm_bd (b : Bool) (l : List UInt8) : sm b l ≤ 65280 * l.length := by
  induction l generalizing b with
  | nil => simp [sm]
  | cons x xs ih =>
    have h := ih (!b)
    have hx := x.toNat_lt
    simp only [sm, List.length_cons]
    cases b <;> simp at h ⊢ <;> omega
theorem sm_set (b : Bool) (l : List UInt8) (i : Nat) (y : UInt8) (h : i < l.length) :
    sm b (l.set i y) + (if flip b i then 256 else 1) * l[i].toNat = sm b l + (if flip b i then 256 else 1) * y.toNat := by
  induction l generalizing b i with
  | nil => simp at h
  | cons x xs ih =>
    cases i with
    | zero => simp only [List.set_cons_zero, sm, List.getElem_cons_zero]; have : flip b 0 = b := by simp [flip]
              rw [this]; omega
    | succ i =>
      have := ih (!b) i (by simpa using h)
      rw [flip_succ] at this
      simp only [List.set_cons_succ, sm, List.getElem_cons_succ]; omega

/-- What WordSum answers. -/
def wsum (s : ByteArray) : Nat := sm true s.data.toList
/-- The sum of the first k bytes. -/
def psum (s : ByteArray) (k : Nat) : Nat := sm true (s.data.toList.take k)
theorem psum_zero (s : ByteArray) : psum s 0 = 0 := by simp [psum, sm]
theorem psum_all (s : ByteArray) : psum s s.size = wsum s := by
  unfold psum wsum; rw [List.take_of_length_le (by simp)]
theorem psum_next (s : ByteArray) (k : Nat) (h : k < s.size) : psum s (k + 1) = psum s k + (if k % 2 = 0 then 256 else 1) * s[k].toNat := by
  have hl : k < s.data.toList.length := by simpa using h
  have e : s.data.toList[k] = s[k] := by simp [ByteArray.getElem_eq_getElem_data]
  unfold psum
  rw [List.take_succ_eq_append_getElem hl, sm_append, e, List.length_take, Nat.min_eq_left (by omega)]
  unfold flip
  rcases Nat.mod_two_eq_zero_or_one k with h | h
  · rw [if_pos h, if_pos h]; simp [sm]
  · rw [if_neg (by omega), if_neg (by omega)]; simp [sm]
theorem psum_bd (s : ByteArray) (k : Nat) : psum s k ≤ 65280 * k := by
  refine Nat.le_trans (sm_bd _ _) (Nat.mul_le_mul_left _ ?_)
  rw [List.length_take]; omega
theorem psum_even (s : ByteArray) (k : Nat) (h : k < s.size) (he : k % 2 = 0) : psum s (k + 1) = psum s k + 256 * s[k].toNat := by
  rw [psum_next s k h, if_pos he]
theorem psum_odd (s : ByteArray) (k : Nat) (h : k < s.size) (he : k % 2 = 1) : psum s (k + 1) = psum s k + s[k].toNat := by
  rw [psum_next s k h, if_neg (by omega), Nat.one_mul]
theorem wsum_bd (s : ByteArray) : wsum s ≤ 65280 * s.size := by rw [← psum_all]; exact psum_bd s _
theorem wsum_append (s t : ByteArray) (h : s.size % 2 = 0) : wsum (s ++ t) = wsum s + wsum t := by
  unfold wsum
  have hl : s.data.toList.length = s.size := by simp
  rw [show (s ++ t).data.toList = s.data.toList ++ t.data.toList by simp, sm_append, hl]
  unfold flip; rw [if_pos h]

/-- What SumOf answers. -/
def sumOf (s : ByteArray) : Int := 65535 - foldI (wsum s)
/-- What SumRight answers. -/
def sumRight (s : ByteArray) : Bool := decide (sumOf s = 0)
theorem sumOf_bd (s : ByteArray) : 0 ≤ sumOf s ∧ sumOf s ≤ 65535 := by
  have := foldI_bd (wsum s); unfold sumOf; omega
theorem sumRight_iff (s : ByteArray) : sumRight s = decide (0 < wsum s ∧ wsum s % 65535 = 0) := by
  unfold sumRight sumOf foldI
  rw [decide_eq_decide]
  split <;> omega
end Go.Proofs.Ytlfbcfhekfmkfaa
