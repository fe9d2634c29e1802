/- Plain words on ARP (chapter 6 of the document). Nothing here is a claim. -/
import Derived.Test.YtkkimgjcefojdaaKit
namespace Go.Proofs.Ytkkimgjcefojdaa
open Go.RowKit Go.Lib

/-- Whether a message of these five fields is valid. -/
def arpOk (k a b c d : Int) : Bool := decide (1 ≤ k ∧ k ≤ 2) && wordOk a 48 && wordOk c 48 && wordOk b 32 && wordOk d 32
def arpHead : ByteArray := ⟨#[0, 1, 8, 0, 6, 4]⟩
/-- What ArpText answers. -/
def arpText (k a b c d : Int) : ByteArray := if arpOk k a b c d then arpHead ++ putW k 2 ++ putW a 6 ++ putW b 4 ++ putW c 6 ++ putW d 4 else ⟨#[]⟩
theorem arpText_le (k a b c d : Int) : (arpText k a b c d).size ≤ 36 := by
  unfold arpText
  split
  · have h1 := putW_le k 2
    have h2 := putW_le a 6
    have h3 := putW_le b 4
    have h4 := putW_le c 6
    have h5 := putW_le d 4
    have h6 : arpHead.size = 6 := rfl
    rw [ByteArray.size_append, ByteArray.size_append, ByteArray.size_append, ByteArray.size_append, ByteArray.size_append]; omega
  · decide
end Go.Proofs.Ytkkimgjcefojdaa
