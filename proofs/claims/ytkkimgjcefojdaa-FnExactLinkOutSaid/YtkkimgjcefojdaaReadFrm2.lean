/- ReadFrame, of the model and of the program: one contract each. -/
import Derived.Test.YtkkimgjcefojdaaReadFrm
namespace Go.Proofs.Ytkkimgjcefojdaa
open Go.RowKit Go.Lib

/-- What ReadFrame answers: whether there is a frame; its fields. -/
def rfOk (s : ByteArray) : Bool := decide (14 ≤ s.size) && readOk s
def rfD (s : ByteArray) : Int := if rfOk s then (gw s 0 6 : Nat) else 0
def rfS (s : ByteArray) : Int := if rfOk s then (gw s 6 6 : Nat) else 0
def rfT (s : ByteArray) : Int := if rfOk s then (gw s 12 2 : Nat) else 0
def rfB (s : ByteArray) : ByteArray := if rfOk s then s.extract 14 s.size else ⟨#[]⟩
def rfV (s : ByteArray) : Value := .tuple #[.agg #[.int .i64 (rfD s), .int .i64 (rfS s), .int .i64 (rfT s), .string (rfB s)], .bool (rfOk s)]
theorem rfV_yes (s : ByteArray) (h : rfOk s = true) : rfV s = .tuple #[.agg #[.int .i64 (gw s 0 6 : Nat), .int .i64 (gw s 6 6 : Nat), .int .i64 (gw s 12 2 : Nat), .string (s.extract 14 s.size)], .bool true] := by
  unfold rfV rfD rfS rfT rfB; simp only [h, if_true]
theorem rfV_no (s : ByteArray) (h : rfOk s = false) : rfV s = .tuple #[.agg #[.int .i64 0, .int .i64 0, .int .i64 0, .string ⟨#[]⟩], .bool false] := by
  unfold rfV rfD rfS rfT rfB; simp only [h, Bool.false_eq_true, if_false]

end Go.Proofs.Ytkkimgjcefojdaa
