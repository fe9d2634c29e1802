/- Plain words on a packet's text (chapter 7 of the document). Nothing here is a claim. -/
import Derived.Test.YtkkimgjcefojdaaPacketOk
import Derived.Test.YtkkimgjcefojdaaKit
namespace Go.Proofs.Ytkkimgjcefojdaa
open Go.RowKit Go.Lib

theorem packOk_all {s d t p i : Int} {b : ByteArray} (h : packOk s d t p i b = true) : wordOk s 32 = true ∧ wordOk d 32 = true ∧ (1 ≤ t ∧ t ≤ 255) ∧ wordOk p 8 = true ∧ wordOk i 16 = true ∧ b.size ≤ 1480 := by
  unfold packOk at h
  simp only [Bool.and_eq_true, decide_eq_true_eq] at h
  exact h
/-- The two parts of a packet's head, without the sum that stands between them. -/
def packHead (n i t p : Int) : ByteArray := ⟨#[69, 0]⟩ ++ putW n 2 ++ putW i 2 ++ ⟨#[0, 0]⟩ ++ putW t 1 ++ putW p 1
def packTail (s d : Int) : ByteArray := putW s 4 ++ putW d 4
/-- What PacketText answers. -/
def packText (s d t p i : Int) (b : ByteArray) : ByteArray :=
  if packOk s d t p i b then packHead (20 + b.size) i t p ++ putW (sumOf (packHead (20 + b.size) i t p ++ packTail s d)) 2 ++ packTail s d ++ b else ⟨#[]⟩
theorem len_word (b : ByteArray) (h : b.size ≤ 1480) : wordOk (20 + b.size) 16 = true := by
  unfold wordOk; apply decide_eq_true; refine ⟨by omega, by omega, ?_⟩
  show (20 : Int) + b.size < 65536
  omega
theorem packHead_size {s d t p i : Int} {b : ByteArray} (h : packOk s d t p i b = true) : (packHead (20 + b.size) i t p).size = 10 := by
  obtain ⟨hs, hd, ht, hp, hi, hb⟩ := packOk_all h
  obtain ⟨_, _, _, _, z1⟩ := putW_word (20 + b.size) 2 (by omega) (len_word b hb)
  obtain ⟨_, _, _, _, z2⟩ := putW_word i 2 (by omega) hi
  obtain ⟨_, _, _, _, z3⟩ := putW_word t 1 (by omega) (by rw [show (8 * ((1 : Nat) : Int)) = 8 from rfl, ttl_word t ht.1]; exact decide_eq_true ht)
  obtain ⟨_, _, _, _, z4⟩ := putW_word p 1 (by omega) hp
  unfold packHead
  have e1 : ((2 : Nat) : Int) = 2 := rfl
  have e2 : ((1 : Nat) : Int) = 1 := rfl
  rw [e1] at z1 z2
  rw [e2] at z3 z4
  simp only [ByteArray.size_append, z1, z2, z3, z4]
  rfl
theorem packTail_size {s d t p i : Int} {b : ByteArray} (h : packOk s d t p i b = true) : (packTail s d).size = 8 := by
  obtain ⟨hs, hd, ht, hp, hi, hb⟩ := packOk_all h
  obtain ⟨_, _, _, _, z1⟩ := putW_word s 4 (by omega) hs
  obtain ⟨_, _, _, _, z2⟩ := putW_word d 4 (by omega) hd
  have e1 : ((4 : Nat) : Int) = 4 := rfl
  rw [e1] at z1 z2
  unfold packTail
  rw [ByteArray.size_append, z1, z2]
theorem packText_yes {s d t p i : Int} {b : ByteArray} (h : packOk s d t p i b = true) : packText s d t p i b = packHead (20 + b.size) i t p ++ putW (sumOf (packHead (20 + b.size) i t p ++ packTail s d)) 2 ++ packTail s d ++ b := by
  unfold packText; rw [if_pos h]
theorem packText_no {s d t p i : Int} {b : ByteArray} (h : packOk s d t p i b = false) : packText s d t p i b = ⟨#[]⟩ := by
  unfold packText; rw [if_neg (by rw [h]; decide)]
/-- The sum of two texts with two bytes of 0 between them. -/
theorem sumOf_zero (x y : ByteArray) (h : x.size % 2 = 0) : sumOf (x ++ ⟨#[0, 0]⟩ ++ y) = sumOf (x ++ y) := by
  have e : wsum (x ++ ⟨#[0, 0]⟩ ++ y) = wsum (x ++ y) := by
    rw [wsum_append _ _ (by rw [ByteArray.size_append]; show (x.size + 2) % 2 = 0; omega), wsum_append _ _ h, wsum_append _ _ h]
    have : wsum ⟨#[0, 0]⟩ = 0 := rfl
    omega
  unfold sumOf; rw [e]
theorem sum_word (s : ByteArray) : wordOk (sumOf s) 16 = true := by
  have := sumOf_bd s
  unfold wordOk; apply decide_eq_true; refine ⟨by omega, by omega, ?_⟩
  show sumOf s < 65536
  omega
theorem packText_le (s d t p i : Int) (b : ByteArray) : (packText s d t p i b).size ≤ 1500 := by
  cases h : packOk s d t p i b with
  | false => rw [packText_no h]; decide
  | true =>
    obtain ⟨hs, hd, ht, hp, hi, hb⟩ := packOk_all h
    obtain ⟨_, _, _, _, z1⟩ := putW_word (sumOf (packHead (20 + b.size) i t p ++ packTail s d)) 2 (by omega) (sum_word _)
    have e1 : ((2 : Nat) : Int) = 2 := rfl
    rw [e1] at z1
    rw [packText_yes h, ByteArray.size_append, ByteArray.size_append, ByteArray.size_append, packHead_size h, packTail_size h, z1]
    omega
theorem first_byte : putW 69 1 = ⟨#[69]⟩ := by decide +kernel
end Go.Proofs.Ytkkimgjcefojdaa
namespace Go.Proofs.Ytkkimgjcefojdaa
open Go.RowKit Go.Lib

/-- The first reason why s is no packet; 0 if it begins with one. -/
def pkWhy (s : ByteArray) : Nat :=
  if s.size < 20 then 1 else if ¬ (at8 s 0).toNat = 69 then 2 else if sumRight (s.extract 0 20) = false then 3
  else if ¬ (20 ≤ gw s 2 2 ∧ gw s 2 2 ≤ s.size ∧ gw s 2 2 ≤ 1500) then 4 else if ¬ (gw s 6 2 = 0 ∨ gw s 6 2 = 16384) then 5 else if (at8 s 8).toNat = 0 then 6 else 0
theorem pkWhy_le (s : ByteArray) : pkWhy s ≤ 6 := by unfold pkWhy; repeat' split
                                                     all_goals omega
theorem and191_all : ∀ n : Fin 256, (bits .and .u8 (n.val : Int) 191 = 0 ↔ (n.val = 0 ∨ n.val = 64)) := by decide +kernel
theorem and191 (n : Nat) (h : n < 256) : bits .and .u8 (n : Int) 191 = 0 ↔ (n = 0 ∨ n = 64) := and191_all ⟨n, h⟩
theorem gw2 (s : ByteArray) (a : Nat) : gw s a 2 = 256 * (at8 s a).toNat + (at8 s (a + 1)).toNat := by simp [gw]
theorem frag_bytes (s : ByteArray) : (gw s 6 2 = 0 ∨ gw s 6 2 = 16384) ↔ (bits .and .u8 ((at8 s 6).toNat : Int) 191 = 0 ∧ (at8 s 7).toNat = 0) := by
  have h1 := (at8 s 6).toNat_lt
  have h2 := (at8 s 7).toNat_lt
  have e : gw s 6 2 = 256 * (at8 s 6).toNat + (at8 s 7).toNat := gw2 s 6
  rw [e, and191 _ h1]
  omega
end Go.Proofs.Ytkkimgjcefojdaa
