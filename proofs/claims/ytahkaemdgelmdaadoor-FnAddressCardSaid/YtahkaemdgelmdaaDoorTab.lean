/- What a listed table of the library holds, behind a call that writes nothing that was there. Nothing here is a claim. -/
import Derived.Lib.LaidTab
import Derived.Below
import Derived.Sort.Grow
import Derived.Deep.Draws
namespace Go.Proofs.YtahkaemdgelmdaaDoor
open Go.RowKit Go.Lib Go.Sort

theorem var_below {P : Program} {W W' : World} {name : String} {cs : Array Value} (hb : Below W.heap.size W W') (h : W.var? P name = some cs) : W'.var? P name = some cs := by
  unfold World.var? at h ⊢
  cases hg : P.globalNamed name with
  | none => rw [hg] at h; cases h
  | some g =>
    rw [hg] at h
    simp only [Option.bind_some] at h ⊢
    rcases Nat.lt_or_ge g W.heap.size with hlt | hge
    · rw [hb.block g hlt]; exact h
    · rw [Array.getElem?_eq_none hge] at h; cases h
theorem tab_below {P : Program} {W W' : World} {name : String} {k : IntKind} {zs : List Int} (h : TabIs P W name k zs) (hb : Below W.heap.size W W') : TabIs P W' name k zs := var_below hb h
theorem below_grow (w : World) (k : Nat) (os : Array Obj) : Below w.heap.size w (grow (w.drewN k) os) :=
  ⟨rfl, rfl, rfl, by simp [grow], fun i hi => by
    show (w.heap ++ os)[i]? = w.heap[i]?
    rw [Array.getElem?_append_left hi]⟩
end Go.Proofs.YtahkaemdgelmdaaDoor
