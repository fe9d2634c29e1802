/- Plain words on TCP segments (chapter 9 of the document). Nothing here is a claim. -/
import Derived.Test.YtlfbcfhekfmkfaaOptKit
import Derived.Test.YtlfbcfhekfmkfaaCells
namespace Go.Proofs.Ytlfbcfhekfmkfaa
open Go.RowKit Go.Lib

/-- The eight fields of a Segment. -/
structure Seg where
  p : Int
  d : Int
  q : Int
  a : Int
  g : Int
  n : Int
  o : Opt
  b : ByteArray
/-- Whether a Segment is valid. -/
def segOk (x : Seg) : Bool :=
  wordOk x.p 16 && (wordOk x.d 16 && (wordOk x.n 16 && (wordOk x.q 32 && (wordOk x.a 32 && (wordOk x.g 6 && (optOk x.o && decide (x.b.size ≤ 1420)))))))
theorem segOk_all {x : Seg} (h : segOk x = true) : wordOk x.p 16 = true ∧ wordOk x.d 16 = true ∧ wordOk x.n 16 = true ∧ wordOk x.q 32 = true ∧ wordOk x.a 32 = true ∧ wordOk x.g 6 = true ∧ optOk x.o = true ∧ x.b.size ≤ 1420 := by
  unfold segOk at h
  simp only [Bool.and_eq_true, decide_eq_true_eq] at h
  exact h
theorem segOk_of {x : Seg} (h1 : wordOk x.p 16 = true) (h2 : wordOk x.d 16 = true) (h3 : wordOk x.n 16 = true) (h4 : wordOk x.q 32 = true) (h5 : wordOk x.a 32 = true) (h6 : wordOk x.g 6 = true) : segOk x = (optOk x.o && decide (x.b.size ≤ 1420)) := by
  unfold segOk
  rw [h1, h2, h3, h4, h5, h6]
  simp
theorem HasC.at {w : World} {g : Nat} {vs : List Value} (h : HasC w g vs) (j : Nat) {v : Value} (hv : vs[j]? = some v) : w.cell? ⟨g, j, none⟩ = some v := h.2 j v hv
end Go.Proofs.Ytlfbcfhekfmkfaa
