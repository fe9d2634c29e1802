/- Plain words on frames (chapter 5 of the document). Nothing here is a claim. -/
import Derived.Test.YtkkimgjcefojdaaKit
namespace Go.Proofs.Ytkkimgjcefojdaa
open Go.RowKit Go.Lib

/-- Whether a frame of these four fields is valid. -/
def frameOk (d s t : Int) (b : ByteArray) : Bool := wordOk d 48 && wordOk s 48 && decide (1536 ≤ t ∧ t ≤ 65535) && decide (b.size ≤ 1586)

theorem type_word (t : Int) (h : 1536 ≤ t) : wordOk t 16 = decide (1536 ≤ t ∧ t ≤ 65535) := by
  unfold wordOk
  rw [decide_eq_decide, show (2 : Int) ^ (16 : Int).toNat = 65536 from rfl]
  omega
/-- What FrameText answers. -/
def frameText (d s t : Int) (b : ByteArray) : ByteArray := if frameOk d s t b then putW d 6 ++ putW s 6 ++ putW t 2 ++ b else ⟨#[]⟩
theorem frameOk_body {d s t : Int} {b : ByteArray} (h : frameOk d s t b = true) : b.size ≤ 1586 := by
  unfold frameOk at h
  simp only [Bool.and_eq_true, decide_eq_true_eq] at h
  exact h.2

/-- Whether the bytes s, at least 14 of them, are a frame's. -/
def readOk (s : ByteArray) : Bool := frameOk (gw s 0 6) (gw s 6 6) (gw s 12 2) (s.extract 14 s.size)
theorem cut4 (s : ByteArray) (h : 14 ≤ s.size) : s.extract 0 6 ++ s.extract 6 12 ++ s.extract 12 14 ++ s.extract 14 s.size = s := by
  rw [← ByteArray.extract_eq_extract_append_extract 6 (by omega) (by omega), ← ByteArray.extract_eq_extract_append_extract 12 (by omega) (by omega), ← ByteArray.extract_eq_extract_append_extract 14 (by omega) (by omega)]
  simp
/-- The text of the frame that was read is what was read. -/
theorem text_read (s : ByteArray) (h : 14 ≤ s.size) (hr : readOk s = true) : frameText (gw s 0 6) (gw s 6 6) (gw s 12 2) (s.extract 14 s.size) = s := by
  unfold frameText
  unfold readOk at hr
  rw [if_pos hr]
  have e0 := put_get s 0 6 (by omega) (by omega)
  have e1 := put_get s 6 6 (by omega) (by omega)
  have e2 := put_get s 12 2 (by omega) (by omega)
  rw [cut_extract] at e0 e1 e2
  have f0 : putW (gw s 0 6 : Int) 6 = s.extract 0 6 := e0
  have f1 : putW (gw s 6 6 : Int) 6 = s.extract 6 12 := e1
  have f2 : putW (gw s 12 2 : Int) 2 = s.extract 12 14 := e2
  rw [f0, f1, f2, cut4 s h]
theorem notEmpty (s : ByteArray) (h : 0 < s.size) : s.toList.isEmpty = false := by
  rw [ByteArray.toList_eq]
  cases hl : s.data.toList with
  | nil => have e : s.data.toList.length = 0 := by rw [hl]; rfl
           rw [Array.length_toList, ByteArray.size_data] at e; omega
  | cons _ _ => rfl
theorem frameText_le (d s t : Int) (b : ByteArray) : (frameText d s t b).size ≤ 1604 := by
  unfold frameText
  split
  · rename_i h
    have h1 := frameOk_body h
    have h2 := putW_le d 6
    have h3 := putW_le s 6
    have h4 := putW_le t 2
    rw [ByteArray.size_append, ByteArray.size_append, ByteArray.size_append]; omega
  · decide
end Go.Proofs.Ytkkimgjcefojdaa
