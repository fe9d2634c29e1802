/- Plain words on frames (chapter 5 of the document). Nothing here is a claim. -/
import Derived.Test.YtjldfmifccjniaaWordLaws
namespace Go.Proofs.Ytjldfmifccjniaa
open Go.RowKit Go.Lib

/-- Whether a frame of these four fields is valid. -/
def frameOk (d s t : Int) (b : ByteArray) : Bool := wordOk d 48 && wordOk s 48 && decide (1536 ≤ t ∧ t ≤ 65535) && decide (b.size ≤ 1586)

theorem type_word (t : Int) (h : 1536 ≤ t) : wordOk t 16 = decide (1536 ≤ t ∧ t ≤ 65535) := by
  unfold wordOk
  rw [decide_eq_decide, show (2 : Int) ^ (16 : Int).toNat = 65536 from rfl]
  omega
end Go.Proofs.Ytjldfmifccjniaa
