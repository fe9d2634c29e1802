/- Plain words on ARP (chapter 6 of the document). Nothing here is a claim. -/
import Derived.Test.YtamjkchhffhejaaWordLaws
namespace Go.Proofs.Ytamjkchhffhejaa
open Go.RowKit Go.Lib

/-- Whether a message of these five fields is valid. -/
def arpOk (k a b c d : Int) : Bool := decide (1 ≤ k ∧ k ≤ 2) && wordOk a 48 && wordOk c 48 && wordOk b 32 && wordOk d 32
def arpHead : ByteArray := ⟨#[0, 1, 8, 0, 6, 4]⟩
/-- What ArpText answers. -/
def arpText (k a b c d : Int) : ByteArray := if arpOk k a b c d then arpHead ++ putW k 2 ++ putW a 6 ++ putW b 4 ++ putW c 6 ++ putW d 4 else ⟨#[]⟩
theorem putW_six (n s : Int) : (putW n s).size ≤ 6 := by
  unfold putW
  split
  · rename_i h
    show (wb n.toNat s.toNat).toArray.size ≤ 6
    rw [List.size_toArray, wb_length]; omega
  · decide
theorem arpText_le (k a b c d : Int) : (arpText k a b c d).size ≤ 36 := by
  unfold arpText
  split
  · have h1 := putW_six k 2
    have h2 := putW_six a 6
    have h3 := putW_six b 4
    have h4 := putW_six c 6
    have h5 := putW_six d 4
    have h6 : arpHead.size = 6 := rfl
    rw [ByteArray.size_append, ByteArray.size_append, ByteArray.size_append, ByteArray.size_append, ByteArray.size_append]; omega
  · decide
end Go.Proofs.Ytamjkchhffhejaa
