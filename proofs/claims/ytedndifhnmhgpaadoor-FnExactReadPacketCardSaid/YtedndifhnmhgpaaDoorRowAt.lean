/- A cell of a block that is known whole. Nothing here is a claim. -/
import Derived.Test.YtedndifhnmhgpaaDoorJoinKit
import Derived.Laws.Rows
namespace Go.Proofs.YtedndifhnmhgpaaDoor
open Go.RowKit Go.Lib

theorem row_at {w : World} {r k : Nat} {cs : Array Value} {t : TypeId} (h : w.heap[r]? = some (.cells cs t (0, 0))) (hk : k < cs.size) : w.cell? ⟨r, k, none⟩ = some cs[k] := by
  rw [cell_of_row w r k cs t (0, 0) h]; simp [hk]
end Go.Proofs.YtedndifhnmhgpaaDoor
