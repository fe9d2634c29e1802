/- A draw's cursor, kept while rows of the call's own grow. Nothing here is a claim. -/
import Derived.Test.YtgnjbejkhklkiaaCurC
namespace Go.Proofs.Ytgnjbejkhklkiaa
open Go.RowKit Go.Lib

theorem CurB.keep {w w' : World} {B g : Nat} (h : CurB w B g) (he : w'.heap[g]? = w.heap[g]?) (hb : Below B w w') : CurB w' B g := by
  obtain ⟨hB, a, bs, cap, i, x, hh, h1, h2, h3⟩ := h
  exact ⟨hB, a, bs, cap, i, x, he.trans hh, h1, h2, h3.below hb⟩
/-- An append to a row of the call's own leaves the cursor, and all that was there but the cursor. -/
theorem app_keeps {w w1 w2 : World} {B g base : Nat} {e : TypeId} {v : Value} {n : Nat} {xs : List Value} {o : Obj} (hc : CurB w1 B g) (hgb : g < base) (hB : B ≤ base) (hw : base = w.heap.size) (hg1 : w.grownBy w1 (some g)) (hown : w1.ownsRow base e 1 v n xs) (hg : (w1.alloc o).grownBy w2 v.ownBlock) :
    CurB w2 B g ∧ w.grownBy w2 (some g) := by
  have hlt := hc.lt
  have hv : ∀ k, k < base → some k ≠ v.ownBlock := fun k hk e => by have := (hown.lt k e.symm).1; omega
  have hk : ∀ k, k < w1.heap.size → k < base → w2.heap[k]? = w1.heap[k]? := fun k h1 h2 =>
    (hg.block k (by simp; omega) (hv k h2)).trans (Below.heap_alloc w1 o k h1)
  refine ⟨hc.keep (hk g hlt hgb) ⟨hg.os, hg.tape, hg.output, Nat.le_trans (by simp) hg.size, fun k h => hk k (by have := hc.1; omega) (by omega)⟩, ?_⟩
  exact ⟨hg.os.trans hg1.os, hg.tape.trans hg1.tape, hg.output.trans hg1.output, Nat.le_trans hg1.size (Nat.le_trans (by simp) hg.size), fun k h1 h2 =>
    (hk k (Nat.lt_of_lt_of_le h1 hg1.size) (by omega)).trans (hg1.block k h1 h2)⟩
end Go.Proofs.Ytgnjbejkhklkiaa
