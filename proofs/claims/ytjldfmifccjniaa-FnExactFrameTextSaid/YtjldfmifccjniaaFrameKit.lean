/- Plain words on frames (chapter 5 of the document). Nothing here is a claim. -/
import Derived.Test.YtjldfmifccjniaaWordLaws
namespace Go.Proofs.Ytjldfmifccjniaa
open Go.RowKit Go.Lib

/-- Whether a frame of these four fields is valid. -/
def frameOk (d s t : Int) (b : ByteArray) : Bool := wordOk d 48 && wordOk s 48 && decide (1536 ≤ t ∧ t ≤ 65535) && decide (b.size ≤ 1586)

theorem type_word (t : Int) (h : 1536 ≤ t) : wordOk t 16 = decide (1536 ≤ t ∧ t ≤ 65535) := by
  unfold wordOk
  rw [decide_eq_decide, show (2 : Int) ^ (16 : Int).toNat = 65536 from rfl]
  omega
/-- What FrameText answers. -/
def frameText (d s t : Int) (b : ByteArray) : ByteArray := if frameOk d s t b then putW d 6 ++ putW s 6 ++ putW t 2 ++ b else ⟨#[]⟩
theorem putW_le (n s : Int) : (putW n s).size ≤ 6 := by
  unfold putW
  split
  · rename_i h
    show (wb n.toNat s.toNat).toArray.size ≤ 6
    rw [List.size_toArray, wb_length]; omega
  · decide
theorem frameOk_body {d s t : Int} {b : ByteArray} (h : frameOk d s t b = true) : b.size ≤ 1586 := by
  unfold frameOk at h
  simp only [Bool.and_eq_true, decide_eq_true_eq] at h
  exact h.2
end Go.Proofs.Ytjldfmifccjniaa
