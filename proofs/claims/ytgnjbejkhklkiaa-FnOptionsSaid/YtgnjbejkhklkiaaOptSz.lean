/- Plain words on an Options value's text: its size; what a walk over OptionsText knows behind each 'if'. Nothing here is a claim. -/
import Derived.Test.YtgnjbejkhklkiaaOptKit
import Derived.Test.YtgnjbejkhklkiaaCells
namespace Go.Proofs.Ytgnjbejkhklkiaa
open Go.RowKit Go.Lib

theorem putW_one : putW 1 1 = ⟨#[1]⟩ := by decide +kernel
theorem optText_no {o : Opt} (h : optOk o = false) : optText o = ⟨#[]⟩ := by unfold optText; rw [if_neg (by rw [h]; decide)]
theorem optText_yes {o : Opt} (h : optOk o = true) : optText o = optBody o ++ ones ((4 - (optBody o).size % 4) % 4) := by unfold optText; rw [if_pos h]
theorem opt_scale {o : Opt} (h : optOk o = true) : -1 ≤ o.c := by
  unfold optOk at h
  simp only [Bool.and_eq_true, decide_eq_true_eq] at h
  exact h.1.2.1
/-- The text so far is x; the boxed argument stands; what was there stands. -/
def OtRel (w : World) (m c : Int) (k t : Bool) (v e : Int) (x : ByteArray) (n : Nat) (s : Value) (wx : World) : Prop :=
  ∃ y : ByteArray, s = .string y ∧ y = x ∧ y.size ≤ n ∧ HasC wx w.heap.size [.int .i64 m, .int .i64 c, .bool k, .bool t, .int .i64 v, .int .i64 e] ∧ Below w.heap.size w wx
theorem sz_two (a b c : ByteArray) (n : Nat) (h : a.size + b.size + c.size ≤ n) : (a ++ (b ++ c)).size ≤ n := by rw [ByteArray.size_append, ByteArray.size_append]; omega
theorem sz_two' (a b c : ByteArray) (n : Nat) (h : a.size + b.size + c.size ≤ n) : (a ++ b ++ c).size ≤ n := by rw [ByteArray.size_append, ByteArray.size_append]; omega
theorem sz_four (a b c d : ByteArray) (n : Nat) (h : a.size + b.size + c.size + d.size ≤ n) : (a ++ (b ++ c ++ d)).size ≤ n := by rw [ByteArray.size_append, ByteArray.size_append, ByteArray.size_append]; omega
theorem sz_four' (a b c d : ByteArray) (n : Nat) (h : a.size + b.size + c.size + d.size ≤ n) : (a ++ b ++ c ++ d).size ≤ n := by rw [ByteArray.size_append, ByteArray.size_append, ByteArray.size_append]; omega
def strLen : Value → Nat
  | .string b => b.size
  | _ => 0
theorem ones_size (n : Nat) : (ones n).size = n := by unfold ones; show (List.replicate n (1 : UInt8)).toArray.size = n; simp
theorem ones_zero : ones 0 = ⟨#[]⟩ := rfl
theorem ones_succ (n : Nat) : ones n ++ ⟨#[1]⟩ = ones (n + 1) := by
  apply ByteArray.ext
  apply Array.toList_inj.1
  unfold ones
  rw [ByteArray.data_append, Array.toList_append, List.replicate_succ']
end Go.Proofs.Ytgnjbejkhklkiaa
