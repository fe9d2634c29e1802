/- Plain lemmas on reading hexadecimal text. Nothing here is a claim. -/
import Derived.Test.YtlfbcfhekfmkfaaKit
import Derived.Lib.Hide
import Derived.Shelf.Small.Strs
namespace Go.Proofs.Ytlfbcfhekfmkfaa
open Go.RowKit Go.Lib

/-- The value of a hexadecimal digit, or -1. -/
def half (c : UInt8) : Int := if 48 ≤ c.toNat ∧ c.toNat ≤ 57 then (c.toNat : Int) - 48 else if 97 ≤ c.toNat ∧ c.toNat ≤ 102 then (c.toNat : Int) - 97 + 10 else -1
theorem half_bd (c : UInt8) : -1 ≤ half c ∧ half c ≤ 15 := by unfold half; split <;> (try split) <;> omega

theorem half_lit_all : ∀ n : Fin 256, half (UInt8.ofNat n.val) = Lib.indexByte [48, 49, 50, 51, 52, 53, 54, 55, 56, 57, 97, 98, 99, 100, 101, 102] (UInt8.ofNat n.val) := by decide +kernel
/-- What strings.IndexByte answers in the program's constant. -/
theorem half_lit (c : UInt8) : Lib.indexByte [48, 49, 50, 51, 52, 53, 54, 55, 56, 57, 97, 98, 99, 100, 101, 102] c = half c := by
  have h := half_lit_all ⟨c.toNat, c.toNat_lt⟩
  simp only [UInt8.ofNat_toNat] at h
  exact h.symm

/-- Byte number k of s. -/
def at8 (s : ByteArray) (k : Nat) : UInt8 := s.data.toList.getD k 0
theorem at8_eq (s : ByteArray) (k : Nat) (h : k < s.size) : s[k] = at8 s k := by
  have h2 : k < s.data.toList.length := by simpa using h
  unfold at8; rw [List.getD_eq_getElem?_getD, List.getElem?_eq_getElem h2]; rfl

def pairOk (s : ByteArray) (j : Nat) : Prop := 0 ≤ half (at8 s (2 * j)) ∧ 0 ≤ half (at8 s (2 * j + 1))
def pairB (s : ByteArray) (j : Nat) : UInt8 := UInt8.ofNat (16 * half (at8 s (2 * j)) + half (at8 s (2 * j + 1))).toNat
def pairs (s : ByteArray) (j : Nat) : List UInt8 := (List.range j).map (pairB s)
theorem pairs_length (s : ByteArray) (j : Nat) : (pairs s j).length = j := by simp [pairs]
theorem pairs_succ (s : ByteArray) (j : Nat) : pairs s (j + 1) = pairs s j ++ [pairB s j] := by simp [pairs, List.range_succ]

open Classical in
noncomputable def unhexOut (s : ByteArray) : ByteArray × Bool :=
  if s.size % 2 = 0 ∧ ∀ j, j < s.size / 2 → pairOk s j then (⟨(pairs s (s.size / 2)).toArray⟩, true) else (⟨#[]⟩, false)
theorem unhexOut_odd (s : ByteArray) (h : s.size % 2 = 1) : unhexOut s = (⟨#[]⟩, false) := by unfold unhexOut; rw [if_neg (fun hh => by omega)]
theorem unhexOut_bad (s : ByteArray) (j : Nat) (hj : 2 * j < s.size) (he : s.size % 2 = 0) (h : ¬ pairOk s j) : unhexOut s = (⟨#[]⟩, false) := by
  unfold unhexOut; rw [if_neg (fun hh => h (hh.2 j (by omega)))]
theorem unhexOut_good (s : ByteArray) (he : s.size % 2 = 0) (h : ∀ j, j < s.size / 2 → pairOk s j) : unhexOut s = (⟨(pairs s (s.size / 2)).toArray⟩, true) := by unfold unhexOut; rw [if_pos ⟨he, h⟩]

/-- What is known at the head of a round. -/
def Read (s : ByteArray) (j k : Nat) : Prop := k = 2 * j ∧ ∀ i, i < j → pairOk s i
theorem Read.next {s : ByteArray} {j k : Nat} (h : Read s j k) (h1 : 0 ≤ half (at8 s k)) (h2 : 0 ≤ half (at8 s (k + 1))) : Read s (j + 1) (k + 2) := by
  obtain ⟨rfl, hp⟩ := h
  refine ⟨by omega, fun i hi => ?_⟩
  by_cases e : i = j
  · subst e; exact ⟨h1, h2⟩
  · exact hp i (by omega)
theorem Read.bad {s : ByteArray} {j k : Nat} (h : Read s j k) (hk : k < s.size) (he : s.size % 2 = 0) (hn : half (at8 s k) < 0 ∨ half (at8 s (k + 1)) < 0) : unhexOut s = (⟨#[]⟩, false) := by
  obtain ⟨rfl, _⟩ := h
  exact unhexOut_bad s j hk he (fun ⟨a, b⟩ => by omega)
theorem Read.last {s : ByteArray} {j k : Nat} (h : Read s j k) (hk : s.size ≤ k) (hk2 : k ≤ s.size) (he : s.size % 2 = 0) : unhexOut s = (⟨(pairs s j).toArray⟩, true) := by
  obtain ⟨rfl, hp⟩ := h
  have e : s.size / 2 = j := by omega
  rw [unhexOut_good s he (by rw [e]; exact hp), e]
theorem Read.byte {s : ByteArray} {j k : Nat} (h : Read s j k) (a b : Int) (ha : half (at8 s k) = a) (hb : half (at8 s (k + 1)) = b) (a0 : 0 ≤ a) (b0 : 0 ≤ b) :
    byteCells (pairs s j) ++ [Value.int .u8 (16 * a + b)] = byteCells (pairs s (j + 1)) := by
  obtain ⟨rfl, _⟩ := h
  have h1 := half_bd (at8 s (2 * j))
  have h2 := half_bd (at8 s (2 * j + 1))
  rw [pairs_succ, byteCells_append]
  have e : ((pairB s j).toNat : Int) = 16 * a + b := by
    unfold pairB
    rw [UInt8.toNat_ofNat', ha, hb]; omega
  simp only [byteCells, List.map_cons, List.map_nil, e]
theorem Read.even {s : ByteArray} {j k : Nat} (h : Read s j k) (he : s.size % 2 = 0) (hk : k < s.size) : k + 1 < s.size := by
  obtain ⟨rfl, _⟩ := h; omega

theorem shl_or_all : ∀ a b : Fin 16, bits .or .i64 ((a.val : Int) * 16) (b.val : Int) = 16 * (a.val : Int) + (b.val : Int) := by decide +kernel
theorem shl_or (a b : Int) (a0 : 0 ≤ a) (b0 : 0 ≤ b) (a1 : a ≤ 15) (b1 : b ≤ 15) : bits .or .i64 (a * 16) b = 16 * a + b := by
  have h := shl_or_all ⟨a.toNat, by omega⟩ ⟨b.toNat, by omega⟩
  simp only [Int.toNat_of_nonneg a0, Int.toNat_of_nonneg b0] at h
  exact h
end Go.Proofs.Ytlfbcfhekfmkfaa
