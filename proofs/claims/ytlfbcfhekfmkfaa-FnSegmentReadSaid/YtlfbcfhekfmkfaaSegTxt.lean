/- Plain words on a segment's text. Nothing here is a claim. -/
import Derived.Test.YtlfbcfhekfmkfaaPseudo
import Derived.Test.YtlfbcfhekfmkfaaKit
namespace Go.Proofs.Ytlfbcfhekfmkfaa
open Go.RowKit Go.Lib

/-- A segment's first sixteen bytes, if its options' text is y. -/
def segFst (x : Seg) (y : ByteArray) : ByteArray := putW x.p 2 ++ putW x.d 2 ++ putW x.q 4 ++ putW x.a 4 ++ putW (((20 + y.size) / 4 * 16 : Nat) : Int) 1 ++ putW x.g 1 ++ putW x.n 2
/-- What stands behind the checksum. -/
def segEnd (y b : ByteArray) : ByteArray := ⟨#[0, 0]⟩ ++ y ++ b
def segAll (P A B : ByteArray) : ByteArray := if P = ⟨#[]⟩ then ⟨#[]⟩ else A ++ putW (sumOf (P ++ A ++ ⟨#[0, 0]⟩ ++ B)) 2 ++ B
/-- The pseudo-header of a text of M bytes. -/
def segPs (s d : Int) (M : Nat) : ByteArray := pseudo (putW s 4) (putW d 4) (putW M 2)
/-- What SegmentText answers. -/
def segText (x : Seg) (s d : Int) : ByteArray :=
  if segOk x then segAll (segPs s d (20 + (optText x.o).size + x.b.size)) (segFst x (optText x.o)) (segEnd (optText x.o) x.b) else ⟨#[]⟩
theorem segText_yes {x : Seg} (s d : Int) (h : segOk x = true) : segText x s d = segAll (segPs s d (20 + (optText x.o).size + x.b.size)) (segFst x (optText x.o)) (segEnd (optText x.o) x.b) := by
  unfold segText; rw [if_pos h]
theorem segText_no {x : Seg} (s d : Int) (h : segOk x = false) : segText x s d = ⟨#[]⟩ := by unfold segText; rw [if_neg (by rw [h]; decide)]
theorem segAll_no (A B : ByteArray) : segAll ⟨#[]⟩ A B = ⟨#[]⟩ := by unfold segAll; rw [if_pos rfl]
theorem segAll_yes {P : ByteArray} (A B : ByteArray) (h : P ≠ ⟨#[]⟩) : segAll P A B = A ++ putW (sumOf (P ++ A ++ ⟨#[0, 0]⟩ ++ B)) 2 ++ B := by unfold segAll; rw [if_neg h]
theorem segPs_le (s d : Int) (M : Nat) : (segPs s d M).size ≤ 20 := by
  have h1 := putW_le s 4
  have h2 := putW_le d 4
  have h3 := putW_le (M : Int) 2
  unfold segPs pseudo
  split
  · exact Nat.zero_le _
  · simp only [ByteArray.size_append]
    show (putW s 4).size + (putW d 4).size + 2 + (putW (M : Int) 2).size ≤ 20
    omega
theorem wordOk6 {g : Int} (h : wordOk g 6 = true) : wordOk g 8 = true := by
  unfold wordOk at h ⊢
  have h2 := of_decide_eq_true h
  have h3 : g < 64 := h2.2.2
  exact decide_eq_true ⟨by omega, h2.2.1, show g < 256 by omega⟩
theorem putW_len (a : Int) (n : Nat) (h : 1 ≤ n ∧ n ≤ 6) (hw : wordOk a (8 * n) = true) : (putW a n).size = n := by
  obtain ⟨_, _, _, _, z⟩ := putW_word a n (by omega) hw
  exact z
theorem seg_sum (s : ByteArray) : wordOk (sumOf s) 16 = true := by
  have := sumOf_bd s
  unfold wordOk; apply decide_eq_true; refine ⟨by omega, by omega, ?_⟩
  show sumOf s < 65536
  omega
end Go.Proofs.Ytlfbcfhekfmkfaa
namespace Go.Proofs.Ytlfbcfhekfmkfaa
open Go.RowKit Go.Lib

/-- The zero Segment. -/
def segZ : Seg := ⟨0, 0, 0, 0, 0, 0, ⟨0, 0, false, false, 0, 0⟩, ⟨#[]⟩⟩
/-- The length of the header that s names. -/
def segN (s : ByteArray) : Nat := (at8 s 12).toNat / 16 * 4
/-- The fields that stand in s. -/
def segCand (s : ByteArray) : Seg :=
  ⟨(gw s 0 2 : Nat), (gw s 2 2 : Nat), (gw s 4 4 : Nat), (gw s 8 4 : Nat), ((at8 s 13).toNat % 64 : Nat), (gw s 14 2 : Nat), (optRead (s.extract 20 (segN s))).1, s.extract (segN s) s.size⟩
/-- Whether s is a segment's text. -/
def segGood (s : ByteArray) (x z : Int) : Bool :=
  decide (20 ≤ s.size) && (decide (20 ≤ segN s ∧ segN s ≤ s.size) && (decide (segPs x z s.size ≠ ⟨#[]⟩) && (sumRight (segPs x z s.size ++ s) && ((optRead (s.extract 20 (segN s))).2 && segOk (segCand s)))))
/-- What ReadSegment answers. -/
def readSeg (s : ByteArray) (x z : Int) : Seg × Bool := if segGood s x z then (segCand s, true) else (segZ, false)
theorem readSeg_no {s : ByteArray} {x z : Int} (h : segGood s x z = false) : readSeg s x z = (segZ, false) := by unfold readSeg; rw [if_neg (by rw [h]; decide)]
theorem readSeg_yes {s : ByteArray} {x z : Int} (h : segGood s x z = true) : readSeg s x z = (segCand s, true) := by unfold readSeg; rw [if_pos h]
/-- The cells of a Segment. -/
def Seg.cs (x : Seg) : Array Value :=
  #[.int .i64 x.p, .int .i64 x.d, .int .i64 x.q, .int .i64 x.a, .int .i64 x.g, .int .i64 x.n, .int .i64 x.o.m, .int .i64 x.o.c, .bool x.o.k, .bool x.o.t, .int .i64 x.o.v, .int .i64 x.o.e, .string x.b]
theorem pseudo_le (x z : Int) (M : Nat) : (segPs x z M).size ≤ 12 := by
  have h (n : Int) (k : Nat) : (putW n k).size ≤ k := by
    unfold putW
    split
    · show (wb n.toNat (k : Int).toNat).toArray.size ≤ k
      rw [List.size_toArray, wb_length]; omega
    · exact Nat.zero_le _
  have h1 : (putW x 4).size ≤ 4 := h x 4
  have h2 : (putW z 4).size ≤ 4 := h z 4
  have h3 : (putW (M : Int) 2).size ≤ 2 := h (M : Int) 2
  unfold segPs pseudo
  split
  · exact Nat.zero_le _
  · simp only [ByteArray.size_append]
    show (putW x 4).size + (putW z 4).size + 2 + (putW (M : Int) 2).size ≤ 12
    omega
theorem below_al {a w : World} (h : Below a.heap.size a w) (o : Obj) : Below a.heap.size a (w.alloc o) := h.alloc h.size o
theorem byte_wrap (x : UInt8) : IntKind.i64.wrap (x.toNat : Int) = x.toNat := by have := x.toNat_lt; rw [IntKind.wrap_i64]; omega
end Go.Proofs.Ytlfbcfhekfmkfaa
