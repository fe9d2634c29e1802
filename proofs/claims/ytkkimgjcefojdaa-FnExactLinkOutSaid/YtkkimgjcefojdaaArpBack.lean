/- ReadArp, of the model and of the program: one contract each; a message's text is read as the message. -/
import Derived.Test.YtkkimgjcefojdaaReadArp
import Derived.Test.YtkkimgjcefojdaaKit
namespace Go.Proofs.Ytkkimgjcefojdaa
open Go.RowKit Go.Lib

theorem toList_add (x y : ByteArray) : (x ++ y).toList = x.toList ++ y.toList := by
  rw [ByteArray.toList_eq, ByteArray.toList_eq, ByteArray.toList_eq, ByteArray.data_append, Array.toList_append]
def rdOk (s : ByteArray) : Bool := arpOk (gw s 6 2 : Nat) (gw s 8 6 : Nat) (gw s 14 4 : Nat) (gw s 18 6 : Nat) (gw s 24 4 : Nat)
def rdText (s : ByteArray) : ByteArray := arpText (gw s 6 2 : Nat) (gw s 8 6 : Nat) (gw s 14 4 : Nat) (gw s 18 6 : Nat) (gw s 24 4 : Nat)
theorem rdText_yes (s : ByteArray) (h : 28 ≤ s.size) (hr : rdOk s = true) : rdText s = arpHead ++ s.extract 6 28 := by
  unfold rdText arpText
  unfold rdOk at hr
  rw [if_pos hr]
  have e0 := put_get s 6 2 (by omega) (by omega)
  have e1 := put_get s 8 6 (by omega) (by omega)
  have e2 := put_get s 14 4 (by omega) (by omega)
  have e3 := put_get s 18 6 (by omega) (by omega)
  have e4 := put_get s 24 4 (by omega) (by omega)
  rw [cut_extract] at e0 e1 e2 e3 e4
  have f0 : putW (gw s 6 2 : Int) 2 = s.extract 6 8 := e0
  have f1 : putW (gw s 8 6 : Int) 6 = s.extract 8 14 := e1
  have f2 : putW (gw s 14 4 : Int) 4 = s.extract 14 18 := e2
  have f3 : putW (gw s 18 6 : Int) 6 = s.extract 18 24 := e3
  have f4 : putW (gw s 24 4 : Int) 4 = s.extract 24 28 := e4
  rw [f0, f1, f2, f3, f4, ByteArray.append_assoc, ByteArray.append_assoc, ByteArray.append_assoc, ByteArray.append_assoc]
  refine congrArg (arpHead ++ ·) ?_
  rw [← ByteArray.extract_eq_extract_append_extract 24 (by omega) (by omega), ← ByteArray.extract_eq_extract_append_extract 18 (by omega) (by omega), ← ByteArray.extract_eq_extract_append_extract 14 (by omega) (by omega), ← ByteArray.extract_eq_extract_append_extract 8 (by omega) (by omega)]
theorem cut_size (s : ByteArray) (h : 28 ≤ s.size) : (s.extract 0 28).toList.length = 28 := by
  rw [ByteArray.toList_eq, Array.length_toList, ByteArray.size_data, ByteArray.size_extract]; omega
set_option maxRecDepth 10000 in
theorem text_eq (s : ByteArray) (h : 28 ≤ s.size) : ((rdText s).toList == (s.extract 0 28).toList) = ((s.extract 0 6).toList == [0, 1, 8, 0, 6, 4] && rdOk s) := by
  cases hr : rdOk s with
  | false =>
    have e : rdText s = ⟨#[]⟩ := by unfold rdText arpText; unfold rdOk at hr; rw [if_neg (by rw [hr]; decide)]
    rw [e, Bool.and_false, beq_eq_false_iff_ne]
    intro hh
    have := cut_size s h
    rw [← hh, ByteArray.toList_eq] at this
    cases this
  | true =>
    rw [rdText_yes s h hr, Bool.and_true, ByteArray.extract_eq_extract_append_extract (a := s) (i := 0) (k := 28) 6 (by omega) (by omega), toList_add, toList_add]
    rw [Bool.eq_iff_iff, beq_iff_eq, beq_iff_eq, List.append_cancel_right_eq]
    have e : arpHead.toList = [0, 1, 8, 0, 6, 4] := by rw [ByteArray.toList_eq]; rfl
    rw [e]
    exact eq_comm

/-- What ReadArp answers: whether there is a message; its fields. -/
def raOk (s : ByteArray) : Bool := decide (28 ≤ s.size) && ((s.extract 0 6).toList == [0, 1, 8, 0, 6, 4] && rdOk s)
def raF (s : ByteArray) (i n : Nat) : Int := if raOk s then (gw s i n : Nat) else 0
def raV (s : ByteArray) : Value := .tuple #[.agg #[.int .i64 (raF s 6 2), .int .i64 (raF s 8 6), .int .i64 (raF s 14 4), .int .i64 (raF s 18 6), .int .i64 (raF s 24 4)], .bool (raOk s)]
theorem raV_yes (s : ByteArray) (h : raOk s = true) : raV s = .tuple #[.agg #[.int .i64 (gw s 6 2 : Nat), .int .i64 (gw s 8 6 : Nat), .int .i64 (gw s 14 4 : Nat), .int .i64 (gw s 18 6 : Nat), .int .i64 (gw s 24 4 : Nat)], .bool true] := by
  unfold raV raF; simp only [h, if_true]
theorem raV_no (s : ByteArray) (h : raOk s = false) : raV s = .tuple #[.agg #[.int .i64 0, .int .i64 0, .int .i64 0, .int .i64 0, .int .i64 0], .bool false] := by
  unfold raV raF; simp only [h, Bool.false_eq_true, if_false]

end Go.Proofs.Ytkkimgjcefojdaa
