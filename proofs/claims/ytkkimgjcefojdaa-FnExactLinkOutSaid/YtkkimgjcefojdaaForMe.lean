/- ForMe, of the model and of the program. -/
import Derived.Test.YtkkimgjcefojdaaArrEq
import Derived.Test.YtkkimgjcefojdaaFrameKit
import Derived.Deep.RegionHeld3
namespace Go.Proofs.Ytkkimgjcefojdaa
open Go.RowKit Go.Lib

/-- What ForMe answers. -/
def forMe (d m : Int) : Bool := decide (d = m) || decide (d = 281474976710655)

theorem hw_parts (n : Int) : ∃ x0 x1 x2 x3 x4 x5 x6 x7 : Int, hw n = #[.int .u8 x0, .int .u8 x1, .int .u8 x2, .int .u8 x3, .int .u8 x4, .int .u8 x5, .int .u8 x6, .int .u8 x7] := ⟨_, _, _, _, _, _, _, _, rfl⟩

/-- The eight cells of an array, kept over a call that makes memory of its own. -/
def Has8 (w : World) (g : Nat) (x0 x1 x2 x3 x4 x5 x6 x7 : Int) : Prop := g < w.heap.size ∧ w.cell? ⟨g, 0, none⟩ = some (.int .u8 x0) ∧ w.cell? ⟨g, 1, none⟩ = some (.int .u8 x1) ∧ w.cell? ⟨g, 2, none⟩ = some (.int .u8 x2) ∧ w.cell? ⟨g, 3, none⟩ = some (.int .u8 x3) ∧ w.cell? ⟨g, 4, none⟩ = some (.int .u8 x4) ∧ w.cell? ⟨g, 5, none⟩ = some (.int .u8 x5) ∧ w.cell? ⟨g, 6, none⟩ = some (.int .u8 x6) ∧ w.cell? ⟨g, 7, none⟩ = some (.int .u8 x7)
theorem keep8 {w w' : World} {g : Nat} {x0 x1 x2 x3 x4 x5 x6 x7 : Int} (h : Has8 w g x0 x1 x2 x3 x4 x5 x6 x7) (hb : Below w.heap.size w w') : Has8 w' g x0 x1 x2 x3 x4 x5 x6 x7 := by
  obtain ⟨h, c0, c1, c2, c3, c4, c5, c6, c7⟩ := h
  exact ⟨Nat.lt_of_lt_of_le h hb.size, (hb.cell (p := ⟨g, 0, none⟩) h).trans c0, (hb.cell (p := ⟨g, 1, none⟩) h).trans c1, (hb.cell (p := ⟨g, 2, none⟩) h).trans c2, (hb.cell (p := ⟨g, 3, none⟩) h).trans c3, (hb.cell (p := ⟨g, 4, none⟩) h).trans c4, (hb.cell (p := ⟨g, 5, none⟩) h).trans c5, (hb.cell (p := ⟨g, 6, none⟩) h).trans c6, (hb.cell (p := ⟨g, 7, none⟩) h).trans c7⟩

end Go.Proofs.Ytkkimgjcefojdaa
