/- errors.As at a target of the program's own error type: what is known behind the call. Nothing here is a claim. -/
import Derived.Test.YtedndifhnmhgpaaDoorAsPacket
import Derived.Test.YtedndifhnmhgpaaDoorBlk
namespace Go.Proofs.YtedndifhnmhgpaaDoor
open Go.RowKit Go.Lib

/-- What the library's variable errors.errorType holds. -/
def ErrTy (w : World) : Prop := w.cell? ⟨0, 0, none⟩ = some (.iface 82 (.agg #[.pointer (some ⟨1, 45, none⟩)]))
theorem ErrTy.below {B : Nat} {w w' : World} (h : ErrTy w) (hb : Below B w w') (hB : 0 < B) : ErrTy w' :=
  (hb.cell (p := ⟨0, 0, none⟩) hB).trans h
theorem ErrTy.lt {w : World} (h : ErrTy w) : 0 < w.heap.size := World.block_lt_of_cell? w _ h
theorem as_set (k : Int) (g : Nat) (old : Value) (w : World) (hg : ErrTy w) (hr : Blk w g [old]) :
    Calls Tryd.prog 26 #[.iface 42 (.int .i64 k), .iface 47 (.pointer (some ⟨g, 0, none⟩))] w fun ev w' => ev = .returned (.bool true) ∧ w'.cell? ⟨g, 0, none⟩ = some (.int .i64 k) ∧ Below g w w' := by
  have hc := hr.cell 0 _ rfl
  have hf := hr.open 0
  have hlt := World.block_lt_of_cell? w _ hc
  refine (as_hit k ⟨g, 0, none⟩ old w hg hc hf).mono ?_
  rintro e w' ⟨rfl, rfl⟩
  have hlt : g < w.heap.size := hlt
  have B : ∀ o1 o2 o3 o4 : Obj, Below g w ((((w.alloc o1).alloc o2).alloc o3).alloc o4) := fun o1 o2 o3 o4 =>
    ((((Below.refl g w).alloc (by omega) o1).alloc (by simp; omega) o2).alloc (by simp; omega) o3).alloc (by simp; omega) o4
  have R : ∀ o1 o2 o3 o4 : Obj, Blk ((((w.alloc o1).alloc o2).alloc o3).alloc o4) g [old] := fun o1 o2 o3 o4 => (((hr.alloc o1).alloc o2).alloc o3).alloc o4
  exact ⟨rfl, ((R _ _ _ _).set 0 _).cell 0 _ rfl, (B _ _ _ _).setCell (Nat.le_refl _) _⟩
end Go.Proofs.YtedndifhnmhgpaaDoor
