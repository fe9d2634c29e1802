/- Aged, of both sides. Nothing here is a claim. -/
import Derived.Test.YtkkimgjcefojdaaEntA
import Derived.Deep.AppendLies
namespace Go.Proofs.Ytkkimgjcefojdaa
open Go.RowKit Go.Lib

theorem Try.info51 : (Try.prog.info? 51).map (fun i => (i.zero, i.size, i.bytes)) = some (some (.agg #[.int .i64 0, .int .i64 0, .int .i64 0]), 3, 24) := by kernel_rfl
/-- New memory that holds these entries; nothing old has turned. The slice may be nil where there are none. -/
def NewE (rs : List ER) (w : World) (e : Ending) (w' : World) : Prop :=
  ∃ a cap, e = .returned (.slice a rs.length cap) ∧ w'.ownsRow w.heap.size 51 3 (.slice a rs.length cap) rs.length (ers rs) ∧ Below w.heap.size w w'
/-- As NewE, and never nil. -/
def NewS (rs : List ER) (w : World) (e : Ending) (w' : World) : Prop :=
  ∃ g cap, e = .returned (.slice (some ⟨g, 0, none⟩) rs.length cap) ∧ w'.ownsRow w.heap.size 51 3 (.slice (some ⟨g, 0, none⟩) rs.length cap) rs.length (ers rs) ∧ Below w.heap.size w w'
theorem NewS.weak {rs : List ER} {w : World} {e : Ending} {w' : World} (h : NewS rs w e w') : NewE rs w e w' := by
  obtain ⟨g, cap, h1, h2, h3⟩ := h
  exact ⟨_, cap, h1, h2, h3⟩
theorem aged_le (rs : List ER) (k : Nat) (h : k ≤ rs.length) : (agedE (rs.take k)).length ≤ k := by
  have := agedE_length (rs.take k)
  rw [List.length_take] at this
  omega
end Go.Proofs.Ytkkimgjcefojdaa
