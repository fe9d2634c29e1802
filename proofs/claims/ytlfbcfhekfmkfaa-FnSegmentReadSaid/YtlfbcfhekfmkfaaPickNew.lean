/- A pick out of a new list of ints. -/
import Derived.Test.YtlfbcfhekfmkfaaWhole
namespace Go.Proofs.Ytlfbcfhekfmkfaa
open Go.RowKit Go.Lib

/-- A pick out of a new list of ints. -/
theorem pickNew (B g : Nat) (w : World) (hc : CurB w B g) (cs : Array Value) (hs : 0 < cs.size) (hs1 : cs.size ≤ 1000000) (hbd : ∀ v ∈ cs.toList, ∃ x, v = .int .i64 x ∧ I64 x) :
    Calls Try.prog 50 #[.pointer (some ⟨g, 0, none⟩), .slice (some ⟨w.heap.size, 0, none⟩) cs.size cs.size] (w.alloc (.cells cs 3)) (WholeEnd w B g) := by
  have hlt := hc.lt
  refine (l1PickInt_any B g w.heap.size _ (hc.new _) cs (heap_alloc_new w _) (by omega) hs hs1 (fun v hv => (hbd v hv).imp fun _ h => h.1)).mono ?_
  rintro e w' ⟨v, hv, rfl, h1, h2⟩
  obtain ⟨x, rfl, hx⟩ := hbd v hv
  exact ⟨x, rfl, hx, h1, grown_tr (World.grownBy_alloc w _ _) h2⟩
end Go.Proofs.Ytlfbcfhekfmkfaa
