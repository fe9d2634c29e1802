/- Plain lemmas on the bytes of a word. Nothing here is a claim. -/
import Derived.Test.YtlfbcfhekfmkfaaWordKit
import Derived.Laws.OwnMore
namespace Go.Proofs.Ytlfbcfhekfmkfaa
open Go.RowKit Go.Lib

/-- Byte number i of the k bytes of the word m. -/
def wbAt (m k i : Nat) : UInt8 := UInt8.ofNat (m / 256 ^ (k - 1 - i))
/-- The k bytes of the word m. -/
def wb (m k : Nat) : List UInt8 := (List.range k).map (wbAt m k)
theorem wb_length (m k : Nat) : (wb m k).length = k := by simp [wb]
theorem wb_get (m k i : Nat) (h : i < k) : (wb m k)[i]? = some (wbAt m k i) := by simp [wb, h]

/-- What PutWord answers. -/
def putW (n s : Int) : ByteArray := if (1 ≤ s ∧ s ≤ 6) ∧ 0 ≤ n ∧ n < 2 ^ (8 * s).toNat then ⟨(wb n.toNat s.toNat).toArray⟩ else ⟨#[]⟩
theorem putW_no (n s : Int) (h : ¬ (1 ≤ s ∧ s ≤ 6)) : putW n s = ⟨#[]⟩ := by unfold putW; rw [if_neg (fun hh => h hh.1)]
theorem putW_ok (n s : Int) (h : 1 ≤ s ∧ s ≤ 6) (hw : wordOk n (8 * s) = false) : putW n s = ⟨#[]⟩ := by
  unfold putW; rw [if_neg]
  intro hh
  unfold wordOk at hw
  exact of_decide_eq_false hw ⟨⟨by omega, by omega⟩, hh.2⟩
theorem putW_yes (n s : Int) (h : 1 ≤ s ∧ s ≤ 6) (hw : wordOk n (8 * s) = true) : putW n s = ⟨(wb n.toNat s.toNat).toArray⟩ := by
  unfold putW
  unfold wordOk at hw
  rw [if_pos ⟨h, (of_decide_eq_true hw).2⟩]

theorem wrap_byte (x : Nat) : IntKind.u8.wrap (x : Int) = ((UInt8.ofNat x).toNat : Int) := by
  rw [UInt8.toNat_ofNat']; simp only [IntKind.wrap, IntKind.bits, IntKind.signed]; simp
theorem pow8 (d : Nat) : 2 ^ (8 * d) = 256 ^ d := by rw [Nat.pow_mul]
/-- What the program stores. -/
theorem put_shift (m k i : Nat) : IntKind.u8.wrap ((m : Int) / 2 ^ (8 * (k - 1 - i))) = ((wbAt m k i).toNat : Int) := by
  have e : (m : Int) / 2 ^ (8 * (k - 1 - i)) = ((m / 256 ^ (k - 1 - i) : Nat) : Int) := by rw [← pow8]; simp
  rw [e, wrap_byte]; rfl

theorem put_shift' (m k i : Nat) : (m : Int) / 2 ^ (8 * (k - 1 - i)) % 256 = ((wbAt m k i).toNat : Int) := by
  have e : (m : Int) / 2 ^ (8 * (k - 1 - i)) = ((m / 256 ^ (k - 1 - i) : Nat) : Int) := by rw [← pow8]; simp
  rw [e]; unfold wbAt; rw [UInt8.toNat_ofNat']; simp
theorem put_rem (m k i : Nat) : ((m / 256 ^ (k - 1 - i) : Nat) : Int) % 256 = ((wbAt m k i).toNat : Int) := by
  unfold wbAt; rw [UInt8.toNat_ofNat']; simp
theorem put_next (m k i : Nat) (h : i + 1 < k) : m / 256 ^ (k - 1 - (i + 1)) / 256 = m / 256 ^ (k - 1 - i) := by
  rw [Nat.div_div_eq_div_mul, ← Nat.pow_succ, show (k - 1 - (i + 1)).succ = k - 1 - i by omega]
/-- The cells of a row: those of which p speaks are filled. -/
def Fill (xs : List Value) (m k : Nat) (p : Nat → Prop) : Prop := xs.length = k ∧ ∀ j, j < k → p j → xs[j]? = some (.int .u8 (wbAt m k j).toNat)
theorem Fill.set {xs : List Value} {m k : Nat} {p q : Nat → Prop} (h : Fill xs m k p) {i : Nat} {x : Int} (hx : x = ((wbAt m k i).toNat : Int)) (hi : i < k) (hq : ∀ j, q j → j = i ∨ p j) : Fill (xs.set i (.int .u8 x)) m k q := by
  refine ⟨by simpa using h.1, fun j hj hqj => ?_⟩
  by_cases e : i = j
  · subst e; rw [List.getElem?_set_self (by rw [h.1]; exact hi), hx]
  · rw [List.getElem?_set_ne e]
    exact h.2 j hj ((hq j hqj).resolve_left (fun x => e x.symm))
theorem Fill.all {xs : List Value} {m k : Nat} {p : Nat → Prop} (h : Fill xs m k p) (hp : ∀ j, j < k → p j) : xs = byteCells (wb m k) := by
  apply List.ext_getElem?
  intro j
  by_cases hj : j < k
  · rw [h.2 j hj (hp j hj)]; simp [byteCells, wb_get m k j hj]
  · rw [List.getElem?_eq_none (by rw [h.1]; omega), List.getElem?_eq_none (by simp [byteCells, wb_length]; omega)]
theorem Fill.made (m k : Nat) (z : Value) (p : Nat → Prop) (hp : ∀ j, j < k → ¬ p j) : Fill (madeCells z.cells (k * 1)).toList m k p := by
  refine ⟨?_, fun j hj h => absurd h (hp j hj)⟩
  simp [madeCells]
theorem Fill.at {xs : List Value} {m k : Nat} {p : Nat → Prop} (h : Fill xs m k p) (j : Nat) (hj : j < k) : ∃ v, xs[j]? = some v := ⟨xs[j]'(by rw [h.1]; exact hj), List.getElem?_eq_getElem _⟩
theorem below_made {w w1 : World} (h : w.grownBy w1 none) : Below w.heap.size w w1 := (Below.refl _ _).grown h (Nat.le_refl _) (fun j hj => by cases hj)
theorem putW_le (n s : Int) : (putW n s).size ≤ 6 := by
  unfold putW
  split
  · rename_i h
    show (wb n.toNat s.toNat).toArray.size ≤ 6
    rw [List.size_toArray, wb_length]; omega
  · decide
theorem putW_six (n : Int) : (putW n 4).size ≤ 6 := putW_le n 4
end Go.Proofs.Ytlfbcfhekfmkfaa
