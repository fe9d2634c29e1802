/- The new row of a string's bytes. Nothing here is a claim. -/
import Derived.Test.YtahkaemdgelmdaaCurKit
import Derived.Laws.IdiomStrings
namespace Go.Proofs.Ytahkaemdgelmdaa
open Go.RowKit Go.Lib

/-- Block g begins with the bytes l, which may be written. -/
def Laid8 (W : World) (g : Nat) (l : List UInt8) : Prop :=
  (∀ j (hj : j < l.length), W.cell? ⟨g, j, none⟩ = some (.int .u8 (l[j].toNat : Int))) ∧ (∀ j, j < l.length → W.frozen? ⟨g, j, none⟩ = false)

theorem bytes_new {P : Program} (w : World) (src dst e : TypeId) (s : ByteArray) (hs : P.underlying src = some .string) (hd : P.underlying dst = some (.slice e)) (he : P.underlying e = some (.int .u8)) :
    ∃ (cap : Nat) (W : World), (convert src dst (.string s)).run P w = .ok (.slice (some ⟨w.heap.size, 0, none⟩) s.size cap) W ∧ Laid8 W w.heap.size s.data.toList ∧ Below w.heap.size w W := by
  refine ⟨_, _, run_bytes_of_string w src dst e s hs hd he, ?_, ?_⟩
  · have hsz : ∀ cap, s.size ≤ (bytesRow s cap).size := fun cap => by simp [bytesRow]
    have hg : ∀ (C : Array Value) (fr : Nat × Nat), (w.drew.alloc (.cells C e fr)).heap[w.heap.size]? = some (.cells C e fr) := fun C fr => heap_alloc_new w.drew _
    refine ⟨fun j hj => ?_, fun j hj => ?_⟩
    · have hj' : j < s.size := by simpa using hj
      rw [cell_of_row _ _ _ _ _ _ (hg _ _)]
      unfold bytesRow
      rw [Array.getElem?_append_left (by simpa using hj')]
      simp [hj']
    · have hj' : j < s.size := by simpa using hj
      have := hsz (grownCap w s.size 0 e)
      unfold World.frozen?
      rw [hg]
      simp
      omega
  · exact (show Below w.heap.size w w.drew from ⟨rfl, rfl, rfl, Nat.le_refl _, fun _ _ => rfl⟩).alloc (Nat.le_refl _) _

theorem Laid8.set {W : World} {g : Nat} {l : List UInt8} (h : Laid8 W g l) {i : Nat} (hi : i < l.length) (y : UInt8) : Laid8 (W.setCell ⟨g, i, none⟩ (.int .u8 (y.toNat : Int))) g (l.set i y) := by
  have hlen : (l.set i y).length = l.length := by simp
  refine ⟨fun j hj => ?_, fun j hj => (World.frozen?_setCell _ _ _ _).trans (h.2 j (by omega))⟩
  have hj' : j < l.length := by omega
  by_cases e : i = j
  · subst e
    rw [World.cell?_setCell_same _ _ _ (h.1 i hi)]
    simp
  · rw [World.cell?_setCell_other _ _ _ _ (by intro x; injection x; omega), h.1 j hj', List.getElem_set_ne e]
end Go.Proofs.Ytahkaemdgelmdaa
