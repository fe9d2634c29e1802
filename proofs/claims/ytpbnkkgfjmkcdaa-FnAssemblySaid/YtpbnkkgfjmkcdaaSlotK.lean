/- The model's slots (pure). Nothing here is a claim. -/
import Derived.Test.YtpbnkkgfjmkcdaaRcvKit
namespace Go.Proofs.Ytpbnkkgfjmkcdaa
open Go.RowKit Go.Lib

/-- What a slot holds. -/
def sv (b : Option UInt8) : Int := match b with
  | some x => (x.toNat : Int)
  | none => -1
theorem sv_bd (b : Option UInt8) : -1 ≤ sv b ∧ sv b ≤ 255 := by
  unfold sv
  split
  · next x => have := x.toNat_lt; omega
  · omega
theorem sv_neg {b : Option UInt8} (h : b = none) : sv b = -1 := by rw [h]; rfl
theorem sv_some {b : Option UInt8} (h : b ≠ none) : 0 ≤ sv b ∧ sv b = ((b.getD 0).toNat : Int) := by
  cases b with
  | none => exact absurd rfl h
  | some x => exact ⟨Int.natCast_nonneg _, rfl⟩
def slotsV (T : Tab) : List Value := (List.range 33).map fun i => .int .i64 (sv (T i))
theorem slotsV_length (T : Tab) : (slotsV T).length = 33 := by simp [slotsV]
theorem slotsV_at (T : Tab) (i : Nat) (h : i < 33) : (slotsV T)[i]? = some (.int .i64 (sv (T i))) := by simp [slotsV, h]
theorem slotsV_put (T : Tab) (o : Nat) (b : UInt8) : (slotsV T).set o (.int .i64 (b.toNat : Int)) = slotsV (putL T o b) := by
  apply List.ext_getElem?
  intro i
  rcases Nat.lt_or_ge i 33 with h | h
  · rw [slotsV_at _ i h]
    by_cases e : o = i
    · subst e
      rw [List.getElem?_set_self (by rw [slotsV_length]; exact h)]
      simp [putL, sv]
    · rw [List.getElem?_set_ne e, slotsV_at _ i h]
      unfold putL
      rw [if_neg (fun e2 => e e2.symm)]
  · rw [List.getElem?_eq_none (by rw [List.length_set, slotsV_length]; exact h), List.getElem?_eq_none (by rw [slotsV_length]; exact h)]
/-- The first k slots empty, the rest not yet laid. -/
def fill33 (k : Nat) : List Value := List.replicate k (.int .i64 (-1)) ++ List.replicate (33 - k) (.int .i64 0)
theorem fill33_at (k : Nat) (h : k < 33) : (fill33 k)[k]? = some (.int .i64 0) := by
  unfold fill33
  rw [List.getElem?_append_right (by simp), List.length_replicate, Nat.sub_self, List.getElem?_replicate, if_pos (by omega)]
theorem fill33_set (k : Nat) (h : k < 33) : (fill33 k).set k (.int .i64 (-1)) = fill33 (k + 1) := by
  unfold fill33
  rw [List.set_append_right _ _ (by simp), List.length_replicate, Nat.sub_self, show 33 - k = (33 - (k + 1)) + 1 by omega, List.replicate_succ, List.set_cons_zero, List.replicate_succ', List.append_assoc]
  rfl
theorem fill33_all : fill33 33 = slotsV (heldT []) := rfl
theorem fill33_zero : fill33 0 = List.replicate 33 (.int .i64 0) := rfl
end Go.Proofs.Ytpbnkkgfjmkcdaa
