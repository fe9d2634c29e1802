/- The draws' own l1Byte. -/
import Derived.Test.YtkkimgjcefojdaaBase
import Derived.Test.YtkkimgjcefojdaaCurKit
namespace Go.Proofs.Ytkkimgjcefojdaa
open Go.RowKit Go.Lib

end Go.Proofs.Ytkkimgjcefojdaa
namespace Go.Proofs.Ytkkimgjcefojdaa
open Go.RowKit Go.Lib

end Go.Proofs.Ytkkimgjcefojdaa
namespace Go.Proofs.Ytkkimgjcefojdaa
open Go.RowKit Go.Lib

end Go.Proofs.Ytkkimgjcefojdaa
namespace Go.Proofs.Ytkkimgjcefojdaa
open Go.RowKit Go.Lib

/-- Block r holds these cells, all of which may be written. -/
def Blk (w : World) (r : Nat) (vs : List Value) : Prop := ∃ t, w.heap[r]? = some (.cells vs.toArray t (0, 0))
theorem Blk.lt {w : World} {r : Nat} {vs : List Value} (h : Blk w r vs) : r < w.heap.size := by
  obtain ⟨t, h⟩ := h
  rcases Nat.lt_or_ge r w.heap.size with hlt | hge
  · exact hlt
  · rw [Array.getElem?_eq_none hge] at h; cases h
theorem Blk.new (w : World) (vs : List Value) (t : TypeId) : Blk (w.alloc (.cells vs.toArray t)) w.heap.size vs := ⟨t, heap_alloc_new w _⟩
theorem Blk.below {w w' : World} {r : Nat} {vs : List Value} (h : Blk w r vs) (hb : Below w.heap.size w w') : Blk w' r vs := by
  have hlt := h.lt
  obtain ⟨t, h⟩ := h
  exact ⟨t, (hb.block r hlt).trans h⟩
theorem own_below {w w' : World} {base size n : Nat} {e : TypeId} {v : Value} {xs : List Value} (h : w.ownsRow base e size v n xs) (hb : Below w.heap.size w w') : w'.ownsRow base e size v n xs :=
  h.kept (below_any (row := none) hb) (Classical.em _)
theorem Blk.drew {w : World} {r : Nat} {vs : List Value} (h : Blk w r vs) : Blk w.drew r vs := h
theorem Blk.alloc {w : World} {r : Nat} {vs : List Value} (h : Blk w r vs) (o : Obj) : Blk (w.alloc o) r vs := h.below ((Below.refl _ _).alloc (Nat.le_refl _) o)
theorem Blk.grown {w w' : World} {r g : Nat} {vs : List Value} (h : Blk w r vs) (hg : w.grownBy w' (some g)) (hne : r ≠ g) : Blk w' r vs := by
  have hlt := h.lt
  obtain ⟨t, h⟩ := h
  exact ⟨t, (hg.block r hlt (fun e => hne (by injection e))).trans h⟩
theorem Blk.set {w : World} {r : Nat} {vs : List Value} (h : Blk w r vs) (k : Nat) (v : Value) : Blk (w.setCell ⟨r, k, none⟩ v) r (vs.set k v) := by
  obtain ⟨t, h⟩ := h
  exact ⟨t, by rw [set_whole h]; simp⟩
theorem Blk.setOther {w : World} {r : Nat} {vs : List Value} (h : Blk w r vs) (q : Addr) (v : Value) (hne : r ≠ q.block) : Blk (w.setCell q v) r vs := by
  obtain ⟨t, h⟩ := h
  exact ⟨t, (Below.heap_setCell w q v r hne).trans h⟩
theorem Blk.cell {w : World} {r : Nat} {vs : List Value} (h : Blk w r vs) (k : Nat) (v : Value) (hv : vs[k]? = some v) : w.cell? ⟨r, k, none⟩ = some v := by
  obtain ⟨t, h⟩ := h
  rw [cell_of_row w r k _ t (0, 0) h]; simpa using hv
theorem Blk.open {w : World} {r : Nat} {vs : List Value} (h : Blk w r vs) (k : Nat) : w.frozen? ⟨r, k, none⟩ = false := by
  obtain ⟨t, h⟩ := h
  exact frozen_of_row w r k _ t h
theorem Blk.four {w : World} {r : Nat} {v0 v1 v2 v3 : Value} (h : Blk w r [v0, v1, v2, v3]) : (w.cell? ⟨r, 0, none⟩ = some v0 ∧ w.cell? ⟨r, 1, none⟩ = some v1 ∧ w.cell? ⟨r, 2, none⟩ = some v2 ∧ w.cell? ⟨r, 3, none⟩ = some v3) ∧
    w.frozen? ⟨r, 0, none⟩ = false ∧ w.frozen? ⟨r, 1, none⟩ = false ∧ w.frozen? ⟨r, 2, none⟩ = false ∧ w.frozen? ⟨r, 3, none⟩ = false :=
  ⟨⟨h.cell 0 _ rfl, h.cell 1 _ rfl, h.cell 2 _ rfl, h.cell 3 _ rfl⟩, h.open 0, h.open 1, h.open 2, h.open 3⟩

/-- A store into a block that is new. -/
theorem grown_setNew {a b : World} {row : Option Nat} (h : a.grownBy b row) (q : Addr) (v : Value) (hq : a.heap.size ≤ q.block) : a.grownBy (b.setCell q v) row :=
  ⟨h.os, h.tape, h.output, by rw [show (b.setCell q v).heap.size = b.heap.size by simp [World.setCell]]; exact h.size, fun i hi hne => by
    rw [Below.heap_setCell b q v i (by omega)]; exact h.block i hi hne⟩
end Go.Proofs.Ytkkimgjcefojdaa
namespace Go.Proofs.Ytkkimgjcefojdaa
open Go.RowKit Go.Lib

theorem Blk.of5 {w : World} {g : Nat} {v0 v1 v2 v3 v4 : Value} (h : Blk w g [v0, v1, v2, v3, v4]) : (w.cell? ⟨g, 0, none⟩ = some v0 ∧ w.cell? ⟨g, 1, none⟩ = some v1 ∧ w.cell? ⟨g, 2, none⟩ = some v2 ∧ w.cell? ⟨g, 3, none⟩ = some v3 ∧ w.cell? ⟨g, 4, none⟩ = some v4) ∧ w.frozen? ⟨g, 0, none⟩ = false ∧ w.frozen? ⟨g, 1, none⟩ = false ∧ w.frozen? ⟨g, 2, none⟩ = false ∧ w.frozen? ⟨g, 3, none⟩ = false ∧ w.frozen? ⟨g, 4, none⟩ = false :=
  ⟨⟨h.cell 0 _ rfl, h.cell 1 _ rfl, h.cell 2 _ rfl, h.cell 3 _ rfl, h.cell 4 _ rfl⟩, h.open 0, h.open 1, h.open 2, h.open 3, h.open 4⟩
/-- The same block and its cells behind a call that turns the cursor. -/
theorem keepB5 {w w' : World} {g r : Nat} {v0 v1 v2 v3 v4 : Value} (h : Blk w g [v0, v1, v2, v3, v4] ∧ w.cell? ⟨g, 0, none⟩ = some v0 ∧ w.cell? ⟨g, 1, none⟩ = some v1 ∧ w.cell? ⟨g, 2, none⟩ = some v2 ∧ w.cell? ⟨g, 3, none⟩ = some v3 ∧ w.cell? ⟨g, 4, none⟩ = some v4) (hg : w.grownBy w' (some r)) (hne : g ≠ r) : Blk w' g [v0, v1, v2, v3, v4] ∧ w'.cell? ⟨g, 0, none⟩ = some v0 ∧ w'.cell? ⟨g, 1, none⟩ = some v1 ∧ w'.cell? ⟨g, 2, none⟩ = some v2 ∧ w'.cell? ⟨g, 3, none⟩ = some v3 ∧ w'.cell? ⟨g, 4, none⟩ = some v4 :=
  ⟨h.1.grown hg hne, (h.1.grown hg hne).of5.1⟩
/-- The same block and its cells behind a call that makes memory of its own. -/
theorem keepC5 {w w' : World} {g : Nat} {v0 v1 v2 v3 v4 : Value} (h : Blk w g [v0, v1, v2, v3, v4] ∧ w.cell? ⟨g, 0, none⟩ = some v0 ∧ w.cell? ⟨g, 1, none⟩ = some v1 ∧ w.cell? ⟨g, 2, none⟩ = some v2 ∧ w.cell? ⟨g, 3, none⟩ = some v3 ∧ w.cell? ⟨g, 4, none⟩ = some v4) (hb : Below w.heap.size w w') : Blk w' g [v0, v1, v2, v3, v4] ∧ w'.cell? ⟨g, 0, none⟩ = some v0 ∧ w'.cell? ⟨g, 1, none⟩ = some v1 ∧ w'.cell? ⟨g, 2, none⟩ = some v2 ∧ w'.cell? ⟨g, 3, none⟩ = some v3 ∧ w'.cell? ⟨g, 4, none⟩ = some v4 :=
  ⟨h.1.below hb, (h.1.below hb).of5.1⟩
end Go.Proofs.Ytkkimgjcefojdaa
namespace Go.Proofs.Ytkkimgjcefojdaa
open Go.RowKit Go.Lib

theorem Blk.of6 {w : World} {g : Nat} {v0 v1 v2 v3 v4 v5 : Value} (h : Blk w g [v0, v1, v2, v3, v4, v5]) : (w.cell? ⟨g, 0, none⟩ = some v0 ∧ w.cell? ⟨g, 1, none⟩ = some v1 ∧ w.cell? ⟨g, 2, none⟩ = some v2 ∧ w.cell? ⟨g, 3, none⟩ = some v3 ∧ w.cell? ⟨g, 4, none⟩ = some v4 ∧ w.cell? ⟨g, 5, none⟩ = some v5) ∧ w.frozen? ⟨g, 0, none⟩ = false ∧ w.frozen? ⟨g, 1, none⟩ = false ∧ w.frozen? ⟨g, 2, none⟩ = false ∧ w.frozen? ⟨g, 3, none⟩ = false ∧ w.frozen? ⟨g, 4, none⟩ = false ∧ w.frozen? ⟨g, 5, none⟩ = false :=
  ⟨⟨h.cell 0 _ rfl, h.cell 1 _ rfl, h.cell 2 _ rfl, h.cell 3 _ rfl, h.cell 4 _ rfl, h.cell 5 _ rfl⟩, h.open 0, h.open 1, h.open 2, h.open 3, h.open 4, h.open 5⟩
/-- The same block and its cells behind a call that turns the cursor. -/
theorem keepB6 {w w' : World} {g r : Nat} {v0 v1 v2 v3 v4 v5 : Value} (h : Blk w g [v0, v1, v2, v3, v4, v5] ∧ w.cell? ⟨g, 0, none⟩ = some v0 ∧ w.cell? ⟨g, 1, none⟩ = some v1 ∧ w.cell? ⟨g, 2, none⟩ = some v2 ∧ w.cell? ⟨g, 3, none⟩ = some v3 ∧ w.cell? ⟨g, 4, none⟩ = some v4 ∧ w.cell? ⟨g, 5, none⟩ = some v5) (hg : w.grownBy w' (some r)) (hne : g ≠ r) : Blk w' g [v0, v1, v2, v3, v4, v5] ∧ w'.cell? ⟨g, 0, none⟩ = some v0 ∧ w'.cell? ⟨g, 1, none⟩ = some v1 ∧ w'.cell? ⟨g, 2, none⟩ = some v2 ∧ w'.cell? ⟨g, 3, none⟩ = some v3 ∧ w'.cell? ⟨g, 4, none⟩ = some v4 ∧ w'.cell? ⟨g, 5, none⟩ = some v5 :=
  ⟨h.1.grown hg hne, (h.1.grown hg hne).of6.1⟩
/-- The same block and its cells behind a call that makes memory of its own. -/
theorem keepC6 {w w' : World} {g : Nat} {v0 v1 v2 v3 v4 v5 : Value} (h : Blk w g [v0, v1, v2, v3, v4, v5] ∧ w.cell? ⟨g, 0, none⟩ = some v0 ∧ w.cell? ⟨g, 1, none⟩ = some v1 ∧ w.cell? ⟨g, 2, none⟩ = some v2 ∧ w.cell? ⟨g, 3, none⟩ = some v3 ∧ w.cell? ⟨g, 4, none⟩ = some v4 ∧ w.cell? ⟨g, 5, none⟩ = some v5) (hb : Below w.heap.size w w') : Blk w' g [v0, v1, v2, v3, v4, v5] ∧ w'.cell? ⟨g, 0, none⟩ = some v0 ∧ w'.cell? ⟨g, 1, none⟩ = some v1 ∧ w'.cell? ⟨g, 2, none⟩ = some v2 ∧ w'.cell? ⟨g, 3, none⟩ = some v3 ∧ w'.cell? ⟨g, 4, none⟩ = some v4 ∧ w'.cell? ⟨g, 5, none⟩ = some v5 :=
  ⟨h.1.below hb, (h.1.below hb).of6.1⟩
end Go.Proofs.Ytkkimgjcefojdaa
namespace Go.Proofs.Ytkkimgjcefojdaa
open Go.RowKit Go.Lib

theorem Blk.of13 {w : World} {g : Nat} {v0 v1 v2 v3 v4 v5 v6 v7 v8 v9 v10 v11 v12 : Value} (h : Blk w g [v0, v1, v2, v3, v4, v5, v6, v7, v8, v9, v10, v11, v12]) : (w.cell? ⟨g, 0, none⟩ = some v0 ∧ w.cell? ⟨g, 1, none⟩ = some v1 ∧ w.cell? ⟨g, 2, none⟩ = some v2 ∧ w.cell? ⟨g, 3, none⟩ = some v3 ∧ w.cell? ⟨g, 4, none⟩ = some v4 ∧ w.cell? ⟨g, 5, none⟩ = some v5 ∧ w.cell? ⟨g, 6, none⟩ = some v6 ∧ w.cell? ⟨g, 7, none⟩ = some v7 ∧ w.cell? ⟨g, 8, none⟩ = some v8 ∧ w.cell? ⟨g, 9, none⟩ = some v9 ∧ w.cell? ⟨g, 10, none⟩ = some v10 ∧ w.cell? ⟨g, 11, none⟩ = some v11 ∧ w.cell? ⟨g, 12, none⟩ = some v12) ∧ w.frozen? ⟨g, 0, none⟩ = false ∧ w.frozen? ⟨g, 1, none⟩ = false ∧ w.frozen? ⟨g, 2, none⟩ = false ∧ w.frozen? ⟨g, 3, none⟩ = false ∧ w.frozen? ⟨g, 4, none⟩ = false ∧ w.frozen? ⟨g, 5, none⟩ = false ∧ w.frozen? ⟨g, 6, none⟩ = false ∧ w.frozen? ⟨g, 7, none⟩ = false ∧ w.frozen? ⟨g, 8, none⟩ = false ∧ w.frozen? ⟨g, 9, none⟩ = false ∧ w.frozen? ⟨g, 10, none⟩ = false ∧ w.frozen? ⟨g, 11, none⟩ = false ∧ w.frozen? ⟨g, 12, none⟩ = false :=
  ⟨⟨h.cell 0 _ rfl, h.cell 1 _ rfl, h.cell 2 _ rfl, h.cell 3 _ rfl, h.cell 4 _ rfl, h.cell 5 _ rfl, h.cell 6 _ rfl, h.cell 7 _ rfl, h.cell 8 _ rfl, h.cell 9 _ rfl, h.cell 10 _ rfl, h.cell 11 _ rfl, h.cell 12 _ rfl⟩, h.open 0, h.open 1, h.open 2, h.open 3, h.open 4, h.open 5, h.open 6, h.open 7, h.open 8, h.open 9, h.open 10, h.open 11, h.open 12⟩
/-- The same block and its cells behind a call that turns the cursor. -/
theorem keepB13 {w w' : World} {g r : Nat} {v0 v1 v2 v3 v4 v5 v6 v7 v8 v9 v10 v11 v12 : Value} (h : Blk w g [v0, v1, v2, v3, v4, v5, v6, v7, v8, v9, v10, v11, v12] ∧ w.cell? ⟨g, 0, none⟩ = some v0 ∧ w.cell? ⟨g, 1, none⟩ = some v1 ∧ w.cell? ⟨g, 2, none⟩ = some v2 ∧ w.cell? ⟨g, 3, none⟩ = some v3 ∧ w.cell? ⟨g, 4, none⟩ = some v4 ∧ w.cell? ⟨g, 5, none⟩ = some v5 ∧ w.cell? ⟨g, 6, none⟩ = some v6 ∧ w.cell? ⟨g, 7, none⟩ = some v7 ∧ w.cell? ⟨g, 8, none⟩ = some v8 ∧ w.cell? ⟨g, 9, none⟩ = some v9 ∧ w.cell? ⟨g, 10, none⟩ = some v10 ∧ w.cell? ⟨g, 11, none⟩ = some v11 ∧ w.cell? ⟨g, 12, none⟩ = some v12) (hg : w.grownBy w' (some r)) (hne : g ≠ r) : Blk w' g [v0, v1, v2, v3, v4, v5, v6, v7, v8, v9, v10, v11, v12] ∧ w'.cell? ⟨g, 0, none⟩ = some v0 ∧ w'.cell? ⟨g, 1, none⟩ = some v1 ∧ w'.cell? ⟨g, 2, none⟩ = some v2 ∧ w'.cell? ⟨g, 3, none⟩ = some v3 ∧ w'.cell? ⟨g, 4, none⟩ = some v4 ∧ w'.cell? ⟨g, 5, none⟩ = some v5 ∧ w'.cell? ⟨g, 6, none⟩ = some v6 ∧ w'.cell? ⟨g, 7, none⟩ = some v7 ∧ w'.cell? ⟨g, 8, none⟩ = some v8 ∧ w'.cell? ⟨g, 9, none⟩ = some v9 ∧ w'.cell? ⟨g, 10, none⟩ = some v10 ∧ w'.cell? ⟨g, 11, none⟩ = some v11 ∧ w'.cell? ⟨g, 12, none⟩ = some v12 :=
  ⟨h.1.grown hg hne, (h.1.grown hg hne).of13.1⟩
/-- The same block and its cells behind a call that makes memory of its own. -/
theorem keepC13 {w w' : World} {g : Nat} {v0 v1 v2 v3 v4 v5 v6 v7 v8 v9 v10 v11 v12 : Value} (h : Blk w g [v0, v1, v2, v3, v4, v5, v6, v7, v8, v9, v10, v11, v12] ∧ w.cell? ⟨g, 0, none⟩ = some v0 ∧ w.cell? ⟨g, 1, none⟩ = some v1 ∧ w.cell? ⟨g, 2, none⟩ = some v2 ∧ w.cell? ⟨g, 3, none⟩ = some v3 ∧ w.cell? ⟨g, 4, none⟩ = some v4 ∧ w.cell? ⟨g, 5, none⟩ = some v5 ∧ w.cell? ⟨g, 6, none⟩ = some v6 ∧ w.cell? ⟨g, 7, none⟩ = some v7 ∧ w.cell? ⟨g, 8, none⟩ = some v8 ∧ w.cell? ⟨g, 9, none⟩ = some v9 ∧ w.cell? ⟨g, 10, none⟩ = some v10 ∧ w.cell? ⟨g, 11, none⟩ = some v11 ∧ w.cell? ⟨g, 12, none⟩ = some v12) (hb : Below w.heap.size w w') : Blk w' g [v0, v1, v2, v3, v4, v5, v6, v7, v8, v9, v10, v11, v12] ∧ w'.cell? ⟨g, 0, none⟩ = some v0 ∧ w'.cell? ⟨g, 1, none⟩ = some v1 ∧ w'.cell? ⟨g, 2, none⟩ = some v2 ∧ w'.cell? ⟨g, 3, none⟩ = some v3 ∧ w'.cell? ⟨g, 4, none⟩ = some v4 ∧ w'.cell? ⟨g, 5, none⟩ = some v5 ∧ w'.cell? ⟨g, 6, none⟩ = some v6 ∧ w'.cell? ⟨g, 7, none⟩ = some v7 ∧ w'.cell? ⟨g, 8, none⟩ = some v8 ∧ w'.cell? ⟨g, 9, none⟩ = some v9 ∧ w'.cell? ⟨g, 10, none⟩ = some v10 ∧ w'.cell? ⟨g, 11, none⟩ = some v11 ∧ w'.cell? ⟨g, 12, none⟩ = some v12 :=
  ⟨h.1.below hb, (h.1.below hb).of13.1⟩
end Go.Proofs.Ytkkimgjcefojdaa
namespace Go.Proofs.Ytkkimgjcefojdaa
open Go.RowKit Go.Lib

theorem Blk.of9 {w : World} {g : Nat} {v0 v1 v2 v3 v4 v5 v6 v7 v8 : Value} (h : Blk w g [v0, v1, v2, v3, v4, v5, v6, v7, v8]) : (w.cell? ⟨g, 0, none⟩ = some v0 ∧ w.cell? ⟨g, 1, none⟩ = some v1 ∧ w.cell? ⟨g, 2, none⟩ = some v2 ∧ w.cell? ⟨g, 3, none⟩ = some v3 ∧ w.cell? ⟨g, 4, none⟩ = some v4 ∧ w.cell? ⟨g, 5, none⟩ = some v5 ∧ w.cell? ⟨g, 6, none⟩ = some v6 ∧ w.cell? ⟨g, 7, none⟩ = some v7 ∧ w.cell? ⟨g, 8, none⟩ = some v8) ∧ w.frozen? ⟨g, 0, none⟩ = false ∧ w.frozen? ⟨g, 1, none⟩ = false ∧ w.frozen? ⟨g, 2, none⟩ = false ∧ w.frozen? ⟨g, 3, none⟩ = false ∧ w.frozen? ⟨g, 4, none⟩ = false ∧ w.frozen? ⟨g, 5, none⟩ = false ∧ w.frozen? ⟨g, 6, none⟩ = false ∧ w.frozen? ⟨g, 7, none⟩ = false ∧ w.frozen? ⟨g, 8, none⟩ = false :=
  ⟨⟨h.cell 0 _ rfl, h.cell 1 _ rfl, h.cell 2 _ rfl, h.cell 3 _ rfl, h.cell 4 _ rfl, h.cell 5 _ rfl, h.cell 6 _ rfl, h.cell 7 _ rfl, h.cell 8 _ rfl⟩, h.open 0, h.open 1, h.open 2, h.open 3, h.open 4, h.open 5, h.open 6, h.open 7, h.open 8⟩
/-- The same block and its cells behind a call that turns the cursor. -/
theorem keepB9 {w w' : World} {g r : Nat} {v0 v1 v2 v3 v4 v5 v6 v7 v8 : Value} (h : Blk w g [v0, v1, v2, v3, v4, v5, v6, v7, v8] ∧ w.cell? ⟨g, 0, none⟩ = some v0 ∧ w.cell? ⟨g, 1, none⟩ = some v1 ∧ w.cell? ⟨g, 2, none⟩ = some v2 ∧ w.cell? ⟨g, 3, none⟩ = some v3 ∧ w.cell? ⟨g, 4, none⟩ = some v4 ∧ w.cell? ⟨g, 5, none⟩ = some v5 ∧ w.cell? ⟨g, 6, none⟩ = some v6 ∧ w.cell? ⟨g, 7, none⟩ = some v7 ∧ w.cell? ⟨g, 8, none⟩ = some v8) (hg : w.grownBy w' (some r)) (hne : g ≠ r) : Blk w' g [v0, v1, v2, v3, v4, v5, v6, v7, v8] ∧ w'.cell? ⟨g, 0, none⟩ = some v0 ∧ w'.cell? ⟨g, 1, none⟩ = some v1 ∧ w'.cell? ⟨g, 2, none⟩ = some v2 ∧ w'.cell? ⟨g, 3, none⟩ = some v3 ∧ w'.cell? ⟨g, 4, none⟩ = some v4 ∧ w'.cell? ⟨g, 5, none⟩ = some v5 ∧ w'.cell? ⟨g, 6, none⟩ = some v6 ∧ w'.cell? ⟨g, 7, none⟩ = some v7 ∧ w'.cell? ⟨g, 8, none⟩ = some v8 :=
  ⟨h.1.grown hg hne, (h.1.grown hg hne).of9.1⟩
/-- The same block and its cells behind a call that makes memory of its own. -/
theorem keepC9 {w w' : World} {g : Nat} {v0 v1 v2 v3 v4 v5 v6 v7 v8 : Value} (h : Blk w g [v0, v1, v2, v3, v4, v5, v6, v7, v8] ∧ w.cell? ⟨g, 0, none⟩ = some v0 ∧ w.cell? ⟨g, 1, none⟩ = some v1 ∧ w.cell? ⟨g, 2, none⟩ = some v2 ∧ w.cell? ⟨g, 3, none⟩ = some v3 ∧ w.cell? ⟨g, 4, none⟩ = some v4 ∧ w.cell? ⟨g, 5, none⟩ = some v5 ∧ w.cell? ⟨g, 6, none⟩ = some v6 ∧ w.cell? ⟨g, 7, none⟩ = some v7 ∧ w.cell? ⟨g, 8, none⟩ = some v8) (hb : Below w.heap.size w w') : Blk w' g [v0, v1, v2, v3, v4, v5, v6, v7, v8] ∧ w'.cell? ⟨g, 0, none⟩ = some v0 ∧ w'.cell? ⟨g, 1, none⟩ = some v1 ∧ w'.cell? ⟨g, 2, none⟩ = some v2 ∧ w'.cell? ⟨g, 3, none⟩ = some v3 ∧ w'.cell? ⟨g, 4, none⟩ = some v4 ∧ w'.cell? ⟨g, 5, none⟩ = some v5 ∧ w'.cell? ⟨g, 6, none⟩ = some v6 ∧ w'.cell? ⟨g, 7, none⟩ = some v7 ∧ w'.cell? ⟨g, 8, none⟩ = some v8 :=
  ⟨h.1.below hb, (h.1.below hb).of9.1⟩
end Go.Proofs.Ytkkimgjcefojdaa
